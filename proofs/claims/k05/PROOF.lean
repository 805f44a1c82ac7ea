import PyProof.Rows.All
import Wide.All
import OpenK.AllK
import Wide.FinOn
import HandS.ForMost
import HandS.Star
import HandS.Property
import HandS.ClsMeth
import HandS.IsInst
import HandS.Wide
import HandS.Walk
import HandS.TupAny
import KE.GoesEnum
import HandS.Style
import HandS.Flt
import HandS.Conv
import HandS.SetBool
import HandS.Strs
import PySem.Challenge.RW_chaircarry_k05_first_difference
set_option Elab.async false
set_option linter.all false
set_option maxRecDepth 100000
set_option maxHeartbeats 5000000
/-! Own rules: enumerate over a tuple, list.extend by a tuple, C( *xs), C() by a positional promise. -/
namespace Cc
open PySem PySem.Spec PyProof.Rows L2
/-! ### list.extend(tuple) -/
theorem extend_tup {prog : Program} {w : World} {A : Around} {Ez : Value → Shared → Prop} {s : Shared} {S it : Addr} {o : Obj} {xs items : Array Value} {n c₀ : Nat} {Qz : Fin → Shared → Prop}
    (kS : s.heap.get? S = some { cls := .type "list", data := .seq xs c₀ }) (ko : s.heap.get? it = some o) (kc : o.cls = .type "tuple") (kd : o.data = .seq items n)
    (kne : S ≠ it) (ksz : xs.size + items.size ≤ sizeLine)
    (hQ : Qz (.done (.ret .none)) { s with heap := s.heap.update S (Obj.mapSeq (· ++ items)) }) :
    wpAny (model prog w) A (Builtin.List.listExtendWith (.ref S) (.ref it) .none) Qz Ez s := by
  show wpAny _ A (Builtin.List.listExtendWith _ _ _) Qz Ez s; unfold Builtin.List.listExtendWith
  refine wpAny_bind (wpAny_typeOf ⟨o, ko, kc⟩ ?_)
  have g1 : (Builtin.List.listSameRef (.ref S) (.ref it) || Value.type "tuple" == Value.type "list" || Value.type "tuple" == Value.type "tuple") = true := by simp
  simp only [g1, if_true]
  refine wpAny_bind ?_
  unfold Builtin.List.listItems
  refine wpAny_bind (wpAny_seqItems ko kd (wpAny_pure ?_))
  refine wpAny_bind ?_
  refine wpAny_bind (wpAny_seqItems kS rfl (wpAny_pure ?_))
  have hdoor : (!xs.isEmpty && Builtin.List.listTooLong (xs.size + items.size)) = false := by rw [notLongL ksz, Bool.and_false]
  simp only [hdoor, Bool.false_eq_true, if_false]
  show wpAny _ A (updateSeq S (· ++ items) >>= fun _ => ret Value.none) _ _ s
  refine wpAny_bind (wpAny_updateSeq kS rfl ?_)
  exact wpAny_pure hQ
section
variable {X : Cx}
def rExtendT (K : PySem.W.Frag) : V → List V → Hp → VK → Prop := fun x vs Hh Qz => ∃ l b xs zs, x = .ref l ∧ vs = [.ref b] ∧ Hh l = some (.lst xs) ∧ SqT K Hh b zs ∧ xs.length + zs.length ≤ sizeLine ∧ Qz .non (upd Hh l (.lst (xs ++ zs)))
theorem mt_extendT : MtM X "list.extend" (rExtendT X.K) := by
  intro pz s sg Hh x vs v us Qz J rx rw1 h
  obtain ⟨l, b, xs, zs, rfl, rfl, kH, kB, kz, qz⟩ := h
  cases rx
  obtain ⟨u, rfl, ru⟩ := rw1.one
  cases ru
  obtain ⟨z, vz, n, r, kl, e⟩ := J.lstM kH
  obtain ⟨vz2, r2, ⟨o, ko, kc, n2, kd⟩, kz2⟩ := J.tuple kB
  have hl2 := r2.length
  have kne : l ≠ b := fun qz => by
    subst qz
    rw [e] at ko
    cases ko
    have hc' : Value.type "list" = Value.type "tuple" := kc
    injection hc' with g1
    exact absurd g1 (by decide)
  have ksz : vz.toArray.size + vz2.toArray.size ≤ sizeLine := by rw [List.size_toArray, List.size_toArray]; omega
  refine call_meets (S := fun _ R s' => s' = s ∧ R (.ok (.ret Value.none)) { s with heap := s.heap.update l (Obj.mapSeq fun x => x ++ vz2.toArray) }) F.slot_list_extend ⟨_, e, rfl⟩ F.entry_list_extend (F.args_list_extend_2 _ _) ?_ ⟨rfl, ?_⟩
  · refine .of_wp fun prog w A R s' h => ?_
    obtain ⟨ks, h⟩ := h
    subst ks
    exact extend_tup e ko kc kd kne ksz ⟨_, rfl, h⟩
  · refine ⟨.non, _, J.lset (its' := vz ++ vz2) kH e (by simp) (r.append r2) ?_, rfl, qz⟩
    rw [List.length_append]
    omega
end
/-! ### enumerate(tuple) -/
/-- the enumerate object over the iterator at i -/
abbrev eOb (i : Addr) : Obj := { cls := .type "enumerate", data := .fields #[.none, .bool false, .ref i, rawInt 0, .none, .none] }
theorem meets_enum1 {v : Value} {o : Obj} {Hh : Heap → Prop} (Bz : Begins v o Hh) :
    Meets (Builtin.«enumerate.__new__» ⟨[.type "enumerate", v], []⟩) (fun _ R s => Hh s.heap ∧
      R (.ok (.ret (.ref (s.heap.push o).objs.size))) { s with heap := (s.heap.push o).push (eOb s.heap.objs.size) }) :=
  .of_wp fun pp ww A R s h => by
    obtain ⟨hp, g, d, tk, os⟩ := s; obtain ⟨g1, h⟩ := h
    have hsub := sub_enumerate
    have qz1 : ∀ {A' : Around} {Ez : Value → Shared → Prop} {Qz : Value → Shared → Prop}, Qz (.ref hp.objs.size) ⟨hp.push o, g, d, tk, os⟩ → wpAny (model pp ww) A' (pyIter v) Qz Ez ⟨hp, g, d, tk, os⟩ :=
      fun qz => Bz.iter pp ww _ _ ⟨hp, g, d, tk, os⟩ _ g1 qz
    wp_walk using qz1
    refine wpAny_stack_any fun zs => wpAny_pure ?_
    split
    · rename_i cz _ _ _ _ _
      cases (cz == Value.type "enumerate")
      · wp_walk using qz1
        exact ⟨_, rfl, h⟩
      · wp_walk using qz1
        exact ⟨_, rfl, h⟩
    · wp_walk using qz1
      exact ⟨_, rfl, h⟩
section
variable {prog : Program} {w : World} {A : Around} {Ez : Value → Shared → Prop} {s : Shared}
theorem call_enum1 {v : Value} {o : Obj} {Hh : Heap → Prop} {Qz : Value → Shared → Prop} (Bz : Begins v o Hh) (g1 : Hh s.heap)
    (h : ∀ h', IsEnum h' (s.heap.objs.size + 1) s.heap.objs.size 0 .none → h'.get? s.heap.objs.size = some o → h'.objs.size = s.heap.objs.size + 2 →
      (∀ b o, s.heap.get? b = some o → h'.get? b = some o) → Qz (.ref (s.heap.objs.size + 1)) { s with heap := h' }) :
    wpAny (model prog w) A (call (.type "enumerate") [v]) Qz Ez s := by
  have kz := Heap.size_push s.heap o
  have ke : IsEnum ((s.heap.push o).push (eOb s.heap.objs.size)) (s.heap.objs.size + 1) s.heap.objs.size 0 .none := kz ▸ Heap.get?_push_size (s.heap.push o) (o := eOb s.heap.objs.size) rfl
  refine callType_new F.called_enumerate (by decide)
    (F.typeCall_enumerate_1 _) (F.newCall_enumerate_1 _) (fun z => F.args_object_init_2 z _)
    F.entry_enumerate_new (meets_enum1 Bz) ⟨g1, ?_⟩
  show _ ∧ _
  rw [kz]
  refine ⟨⟨_, ke, rfl⟩, h _ ke (Heap.get?_push_of_some _ (Heap.get?_push_size _ Bz.free)) (by rw [Heap.size_push, kz]) fun b o x => Heap.get?_push_of_some _ (Heap.get?_push_of_some _ x)⟩
end
section
variable {prog : Program} {w : World} {A : Around} {Ez : Value → Shared → Prop} {s : Shared}
theorem pyNext_enum_end {e it t : Addr} {i : Nat} {items : Array Value} {c : Int} {olz : Value} {Qz : Option Value → Shared → Prop} (kx : items[i]? = none)
    (kh : A.in1.handled = none) (ke : IsEnum s.heap e it c olz) (kit : s.heap.IsTupleIter it t i) (ht : s.heap.IsTuple t items)
    (hQ : ∀ h', Heap.ExtBut it s.heap h' → Qz none { s with heap := h' }) : wpAny (model prog w) A (pyNext (.ref e)) Qz Ez s := by
  have kT : s.TypeIs (.ref e) "enumerate" := ⟨_, ke, rfl⟩
  unfold pyNext
  refine wpAny_bind (wpAny_attempt (wpAny_callSpecial?_slot (name := Str.ofString "__next__") kT F.slot_enumerate_next
    (wpAny_call_entry F.slot_enumerate_next kT F.entry_enumerate_next ?_ (F.args_enumerate_next_1 _))))
  show wpAny _ _ (field (Value.ref e) 2 >>= _) _ _ s
  refine wpAny_bind (wpAny_field ke rfl (x := .ref it) rfl ?_)
  refine wpAny_bind (wpAny_nextOf_tuple_end kh kit ht kx fun h' x ke' hx' => ?_)
  obtain ⟨o, ko, kc⟩ := hx'
  refine wpAny_bind (wpAny_isInstance (T := "StopIteration") (b := true) ⟨o, ko, kc⟩ isSubtype_stop ?_)
  exact wpAny_pure (hQ _ ke')
end
/-- the tuple at a, each item in a nw pair -/
def IteT (K : PySem.W.Frag) (a : Addr) : It :=
  ⟨fun i Hh => ∃ (xs : List V) (x : V), SqT K Hh a xs ∧ xs[i]? = some x, fun i Hh v H' => ∃ T x, v = .ref T ∧ Hh T = none ∧ H' = upd Hh T (.tup [.int (i : Nat), x]) ∧ ∀ xs, SqT K Hh a xs → xs[i]? = some x, fun i Hh => ∃ xs : List V, SqT K Hh a xs ∧ xs.length ≤ i⟩
theorem turn_enumT {P : Program} {w : World} {K : PySem.W.Frag} {elts : List Expr} {kk : Nat} {tpos : Pos} (a e it : Addr) :
    Turn P w K (.Tuple elts kk tpos) (IteT K a) [e, it] e (fun i h => (∃ olz, IsEnum h e it ((i : Nat) : Int) olz) ∧ h.IsTupleIter it a i ∧ e ≠ it ∧ a ≠ e ∧ a ≠ it) where
  mem := by simp
  obj := fun i h st b kb => by
    obtain ⟨⟨olz, ke⟩, ⟨o, ko, kc, kd⟩, _⟩ := st
    have ee : b = e ∨ b = it := by simpa using kb
    rcases ee with z | z
    · rw [z]; exact ⟨_, ke, fun v qz => nomatch qz⟩
    · rw [z]; exact ⟨o, ko, fun v qz => by rw [kd] at qz; cases qz⟩
  keep := fun i h h' st k => let ⟨⟨olz, ke⟩, hi, kne⟩ := st; ⟨⟨olz, k e (by simp) _ ke⟩, hi.at fun o qz => k it (by simp) o qz, kne⟩
  item := by
    intro X kP kw kK kc i pz s sg Hh Ez J kf st kg
    subst kP kw kK
    obtain ⟨⟨olz, ke⟩, kit, kne, kae, kai⟩ := st
    obtain ⟨xs, x, kq, kx⟩ := kg
    obtain ⟨vz, rw1, p, kz⟩ := J.tuple kq
    have kel : e < s.heap.objs.size := Heap.lt_size ke
    have kil : it < s.heap.objs.size := by obtain ⟨_, qz, _⟩ := kit; exact Heap.lt_size qz
    have hix : i < vz.toArray.size := by
      have := rw1.length
      have h2 := (List.getElem?_eq_some_iff.mp kx).1
      rw [List.size_toArray]
      omega
    have Dz := Draws.tuple (prog := X.prog) (w := X.w) (A := X.A.in1) (show X.A.in1.handled = none from J.ok.hd kc) it a kai vz.toArray
    refine wpAny_pyNext_enum_itemD Dz ke ⟨kit, p⟩ hix kne (by simp [kne, Ne.symm kae]) fun u h' tk ku ko hit' kT ksz kk => ?_
    have ru : RelV x u := by
      obtain ⟨u2, hu2, r2⟩ := rw1.get kx
      have e3 : u2 = u := by
        have ku' : vz[i]? = some u := by simpa using ku
        exact Option.some.inj (hu2.symm.trans ku')
      exact e3 ▸ r2
    refine ⟨_, rfl, wpAny_letOwnedTupleGo_enum (s := { s with heap := h', toks := tk + 1 }) ko fun h'' ke' sbz => ?_⟩
    have kT2 : h''.get? s.heap.objs.size = some { cls := .type "tuple", data := .seq #[.int i tk, u] } := (sbz.2 _ (Nat.ne_of_gt kel)).trans kT
    have nw : ObjOk X.prog X.w (upd Hh s.heap.objs.size (.tup [.int (i : Nat), x])) h'' s.heap.objs.size (.tup [.int (i : Nat), x]) :=
      ⟨by show 2 ≤ sizeLine; decide, [.int i tk, u], .cons ⟨_, rfl⟩ (.cons ru .nil), ⟨_, kT2, rfl, _, rfl⟩⟩
    have J1 : Inv X pz sg (upd Hh s.heap.objs.size (.tup [.int (i : Nat), x])) { s with heap := h'', toks := tk + 1 } :=
      J.turnedNew (ch := [e, it]) (fun b ob kb qz => (sbz.2 b (fun z => kb (by simp [z]))).trans (kk b ob (fun z => kb (by simp [z])) (fun z => kb (by simp [z])) qz)) kf (Nat.le_refl _) nw
    refine ⟨.ref s.heap.objs.size, _, J1, rfl, ⟨_, x, rfl, J.hok.fresh (Nat.le_refl _), rfl, fun ys hy => by rw [J.tuple_inj hy kq]; exact kx⟩, ⟨⟨u, ?_⟩, hit'.1.at fun o qz => (sbz.2 it (Ne.symm kne)).trans qz, kne, kae, kai⟩, fun b kb => ?_⟩
    · have e1 : (((i + 1 : Nat)) : Int) = (i : Int) + 1 := by omega
      rw [e1]; exact ke'
    · have kb' : b < s.heap.objs.size := by
        have ee : b = e ∨ b = it := by simpa using kb
        rcases ee with z | z
        · rw [z]; exact kel
        · rw [z]; exact kil
      rw [upd_ne (Nat.ne_of_lt kb')]
      exact (kf b kb).1
  done := by
    intro X kP kw kK kc i pz s sg Hh Ez J kf st kg
    subst kP kw kK
    obtain ⟨⟨olz, ke⟩, kit, kne, kae, kai⟩ := st
    obtain ⟨xs, kq, kx⟩ := kg
    obtain ⟨vz, rw1, p, kz⟩ := J.tuple kq
    obtain ⟨f0, f1, f2, f3, f4, f5⟩ := kf it (by simp)
    have hl := rw1.length
    exact pyNext_enum_end (by simp; omega) (show X.A.in1.handled = none from J.ok.hd kc) ke kit p fun h' eb => ⟨rfl, J.turned (t' := s.toks) (fun b o kb qz => eb b o kb qz) f0 f1 f3 f4 f5⟩
  self := fun A i s Qz Ez st h => let ⟨⟨_, ke⟩, _⟩ := st; wpAny_pyIter_enum ke h
def iEnumT (K : PySem.W.Frag) (ta : TA) : TI := fun sg Hh R => ta sg Hh fun vs H1 => ∃ a xs, vs = [.ref a] ∧ SqT K H1 a xs ∧ R (IteT K a) H1
theorem pi_enumT {X : Cx} {e : Expr} {ta : TA} {p pos tpos : Pos} {elts : List Expr} {kk : Nat} (kg : Gl X "enumerate") (km : X.mg "enumerate" = none) (ka : PA X [e] ta) (ks : starEach [e] X.env = [(false, eval e X.env)] := by rfl) :
    PI X (.Tuple elts kk tpos) (.Call (.Name "enumerate" p) [e] [] pos) (iEnumT X.K ta) := by
  refine ⟨fun pz s sg Hh R J h => ?_⟩
  refine Call_ (ld_blt J kg km boot_enumerate (PyProof.Rows.callWith_type1 (thn (ka.run pos pz s sg Hh _ J h) fun us s1 ⟨vs, H1, J1, r1, qz1⟩ => ?_) ks rfl))
  obtain ⟨a, xs, ex, kq, qz⟩ := qz1
  subst ex
  cases r1 with
  | cons r rr =>
    cases rr
    cases r
    obtain ⟨vz, rw1, p', kz⟩ := J1.tuple kq
    have hal : a < s1.heap.objs.size := p'.lt
    refine call_enum1 (begins_tuple a vz.toArray) p' fun h' ke kit ksz kk => wpAny_pyIter_enum ke ?_
    have J2 : Inv X pz sg H1 { s1 with heap := h' } := J1.kept (t' := s1.toks) kk
    refine ⟨s1.heap.objs.size + 1, [s1.heap.objs.size + 1, s1.heap.objs.size], _, _, H1, rfl, J2, turn_enumT a (s1.heap.objs.size + 1) s1.heap.objs.size, ⟨⟨.none, ke⟩, ⟨_, kit, rfl, rfl⟩, Nat.succ_ne_self _, Nat.ne_of_lt (Nat.lt_succ_of_lt hal), Nat.ne_of_lt hal⟩, fun b kb => ?_, qz⟩
    have ee : b = s1.heap.objs.size + 1 ∨ b = s1.heap.objs.size := by simpa using kb
    have kle : s1.heap.objs.size ≤ b := by
      rcases ee with z | z
      · subst z; exact Nat.le_succ _
      · rw [z]; exact Nat.le_refl _
    exact J1.fpOk kle (J1.hok.fresh kle)
theorem walk_enumT {K : PySem.W.Frag} {a : Addr} {xs : List V} : Walk (IteT K a) xs.length (fun Hh => SqT K Hh a xs) (YPair (fun i => some (.int (i : Nat))) (fun i => xs[i]?)) := by
  refine ⟨fun i _ hi qz => ⟨xs, xs[i], qz, by simp [hi]⟩, fun _ qz => ⟨xs, qz, Nat.le_refl _⟩, fun i Hh v H' _ qz y => ?_⟩
  obtain ⟨T, x, g1, g2, g3, g4⟩ := y
  exact ⟨T, .int (i : Nat), x, g1, g2, g3, rfl, g4 xs qz⟩
/-! ### C( *xs), C() by a positional promise -/
def tMakeS (K : PySem.W.Frag) (C : Addr) (sp : Sp) (Ez : XK) (te : TE) : TE := fun sg Hh Qz => te sg Hh fun y H1 => ∃ a xs, y = V.ref a ∧ (SqT K H1 a xs ∨ SqL K H1 a xs) ∧ ∀ x dx, H1 x = Option.none → H1 dx = Option.none → dx ≠ x →
  sp (V.ref x :: xs) (upd (upd H1 dx (.own x)) x (.ins C dx [])) (fun v H2 => v = .non ∧ Qz (.ref x) H2) Ez
section
variable {X : Cx} {CX : CXT} {k : Nat} {f C : Addr} {sp : Sp} {Ez : XK} {x : Str} {e : Expr} {te : TE} {p sp_ pos : Pos}
theorem pe_makeS (M : Mk X.K C f) (F : FnR X.prog X.w X.K X.mg X.base CX k f sp) (kr : Room (k + 1) X.A) (kg : Gl X x) (km : X.mg x = some (.ref C)) (kx : Passes CX X Ez) (ke : PE X e te) (kdb : (x == ("__debug__" : Str)) = false := by decide)
    (kst : starEach [.Starred e sp_] X.env = [(true, eval e X.env)] := by rfl) : PE X (.Call (.Name x p) [.Starred e sp_] [] pos) (tMakeS X.K C sp Ez te) := by
  refine ⟨fun pz s sg Hh Qz J h => ?_⟩
  refine wpAny_Call_Name_kw (ld_glob J kg km ?_ kdb)
  refine PySem.W.callWith_S (h₀ := X.base) J.ok.mod.kin M.kp (thn (ke.run pz s sg Hh _ J h) fun v s1 ⟨y, H1, J1, ry, a, xs, ey, kxs, qz⟩ => ?_) kst
  subst ey
  cases (show v = Value.ref a from ry)
  exact StX.star_any J1 kxs fun us s2 J2 rw1 => ⟨J2.kIn, StX.run_makeR M F kr kx J2 rw1 qz⟩
theorem pe_makeR0 (M : Mk X.K C f) (F : FnR X.prog X.w X.K X.mg X.base CX k f sp) (kr : Room (k + 1) X.A) (kg : Gl X x) (km : X.mg x = some (.ref C)) (kx : Passes CX X Ez) (kdb : (x == ("__debug__" : Str)) = false := by decide) :
    PE X (.Call (.Name x p) [] [] pos) (StX.tMakeR C sp Ez tNil) := by
  refine ⟨fun pz s sg Hh Qz J h => ?_⟩
  refine wpAny_Call_Name_kw (ld_glob J kg km ?_ kdb)
  exact PySem.W.callWith_K0 J.kIn M.kp (StX.run_makeR (us := []) M F kr kx J .nil h)
end
/-! ### f(e, ..) by a positional promise -/
section
variable {X : Cx} {CX : CXT} {k : Nat} {f : Addr} {sp : Sp} {Ez : XK} {x : Str} {e : Expr} {es : List Expr} {t : TA} {p pos : Pos}
theorem pe_callR (F : FnR X.prog X.w X.K X.mg X.base CX k f sp) (kr : Room k X.A) (kg : Gl X x) (km : X.mg x = some (.ref f)) (kk : PySem.W.keepIn X.K (.ref f) = true) (kx : Passes CX X Ez) (ka : PA X (e :: es) t) (kdb : (x == ("__debug__" : Str)) = false := by decide)
    (ke : starEach (e :: es) X.env = (false, eval e X.env) :: starEach es X.env := by rfl) (kpl : (backTo pos (starEach es X.env)).any (·.1) = false := by rfl) :
    PE X (.Call (.Name x p) (e :: es) [] pos) (fun sg Hh Qz => t sg Hh fun vs H1 => sp vs H1 Qz Ez) := by
  refine ⟨fun pz s sg Hh Qz J h => ?_⟩
  refine wpAny_Call_Name_kw (ld_glob J kg km ?_ kdb)
  refine PySem.W.callWith_K (h₀ := X.base) J.ok.mod.kin kk (thn (ka.run pos pz s sg Hh _ J h) fun us s1 ⟨vs, H1, J1, r, qz⟩ => ⟨J1.kIn, ?_⟩) ke kpl
  exact wpAny_call (run_fnR F kr kx J1 r qz)
end
/-- a def of the module as a callee: where it is, that it is kept, vz promise -/
structure Dn (P : Program) (w : World) (K : PySem.W.Frag) (mg : Str → Option Value) (base : Heap) (k : Nat) (x : Str) (f : Addr) (sp : Sp) : Prop where
  at_ : mg x = some (.ref f)
  kp : PySem.W.keepIn K (Value.ref f) = true
  ok : FnR P w K mg base CX0 k f sp
end Cc

/-! The data (steps, plans, the drawing's state over the heap) and the mathematics. -/
namespace Cc
open PySem PySem.Spec PyProof.Rows L2
/-! ### steps -/
inductive Stp where
  | turn
  | meet (red : Bool) (n : Int)
def roomS (b : Bool) : Str := if b then "red" else "blue"
def stpV : Stp → List V
  | .turn => [.str "turn"]
  | .meet b n => [.str (roomS b), .int n]
def Stp.ok (c : Int) : Stp → Prop
  | .turn => True
  | .meet _ n => 0 ≤ n ∧ n ≤ c
theorem Stp.ok.mono {s : Stp} {c d : Int} (h : s.ok c) (hd : c ≤ d) : s.ok d := by
  cases s with
  | turn => trivial
  | meet b n => exact ⟨h.1, Int.le_trans h.2 hd⟩
def mx (i j : Int) : Int := if j > i then j else i
theorem mx_eq (i j : Int) : mx i j = max i j := by unfold mx; omega
/-- what a step leaves in the red room, and carries: the code's own way -/
def stepF (c : Int) (s : Stp) (r : Int) : Int × Int := match s with
  | .turn => (c - r, 0)
  | .meet true n => (r + mx 0 (n - r), mx 0 (n - r))
  | .meet false n => (r - mx 0 (n - (c - r)), mx 0 (n - (c - r)))
/-- steps: the red room, the sum -/
def stepsF (c : Int) : List Stp → Int × Int → Int × Int
  | [], x => x
  | s :: ss, x => stepsF c ss ((stepF c s x.1).1, x.2 + (stepF c s x.1).2)
theorem stepsF_app (c : Int) : ∀ (a b : List Stp) (x : Int × Int), stepsF c (a ++ b) x = stepsF c b (stepsF c a x)
  | [], _, _ => rfl
  | s :: a, b, x => by
    show stepsF c (a ++ b) _ = stepsF c b (stepsF c a _)
    exact stepsF_app c a b _
theorem stepsF_one (c : Int) (a : List Stp) (s : Stp) (x : Int × Int) : stepsF c (a ++ [s]) x = ((stepF c s (stepsF c a x).1).1, (stepsF c a x).2 + (stepF c s (stepsF c a x).1).2) := by
  rw [stepsF_app]
  rfl
theorem stepsF_add (c : Int) : ∀ (a : List Stp) (r t : Int), stepsF c a (r, t) = ((stepsF c a (r, 0)).1, t + (stepsF c a (r, 0)).2)
  | [], r, t => by simp [stepsF]
  | s :: a, r, t => by
    show stepsF c a _ = ((stepsF c a _).1, t + (stepsF c a _).2)
    rw [stepsF_add c a (stepF c s r).1 (t + (stepF c s r).2), stepsF_add c a (stepF c s r).1 (0 + (stepF c s r).2)]
    simp only [Prod.mk.injEq, true_and]
    omega
theorem take_more {α : Type} : ∀ {l : List α} {i : Nat} {x : α}, l[i]? = some x → l.take (i + 1) = l.take i ++ [x]
  | [], i, x, h => by simp at h
  | a :: l, 0, x, h => by
    have e : a = x := Option.some.inj h
    subst e
    rfl
  | a :: l, i + 1, x, h => by
    have ih := take_more (l := l) (i := i) (x := x) h
    show a :: l.take (i + 1) = a :: l.take i ++ [x]
    rw [ih]
    rfl
/-- the red room stays within the house -/
theorem stepF_in {c : Int} {s : Stp} {r : Int} (hs : s.ok c) (h0 : 0 ≤ r) (h1 : r ≤ c) : 0 ≤ (stepF c s r).1 ∧ (stepF c s r).1 ≤ c ∧ 0 ≤ (stepF c s r).2 ∧ (stepF c s r).2 ≤ c := by
  cases s with
  | turn => simp only [stepF]; omega
  | meet b n =>
    obtain ⟨h2, h3⟩ := hs
    cases b <;> simp only [stepF, mx] <;> split <;> omega
theorem stepsF_in {c : Int} : ∀ {ss : List Stp} {r t : Int}, (∀ s ∈ ss, s.ok c) → 0 ≤ r → r ≤ c → 0 ≤ t → 0 ≤ (stepsF c ss (r, t)).1 ∧ (stepsF c ss (r, t)).1 ≤ c ∧ 0 ≤ (stepsF c ss (r, t)).2
  | [], r, t, _, h0, h1, ht => ⟨h0, h1, ht⟩
  | s :: ss, r, t, hs, h0, h1, ht => by
    obtain ⟨a, b, d, _⟩ := stepF_in (hs s List.mem_cons_self) h0 h1
    exact stepsF_in (ss := ss) (fun x hx => hs x (List.mem_cons_of_mem _ hx)) a b (by show 0 ≤ t + (stepF c s r).2; omega)
/-- rounds -/
def roundsF (c : Int) (ss : List Stp) : Nat → Int × Int → Int × Int
  | 0, x => x
  | n + 1, x => roundsF c ss n (stepsF c ss x)
theorem roundsF_succ (c : Int) (ss : List Stp) : ∀ (n : Nat) (x : Int × Int), roundsF c ss (n + 1) x = stepsF c ss (roundsF c ss n x)
  | 0, x => rfl
  | n + 1, x => by
    show roundsF c ss (n + 1) (stepsF c ss x) = _
    rw [roundsF_succ c ss n (stepsF c ss x)]
    rfl
theorem roundsF_in {c : Int} {ss : List Stp} (hs : ∀ s ∈ ss, s.ok c) : ∀ {n : Nat} {r t : Int}, 0 ≤ r → r ≤ c → 0 ≤ t → 0 ≤ (roundsF c ss n (r, t)).1 ∧ (roundsF c ss n (r, t)).1 ≤ c ∧ 0 ≤ (roundsF c ss n (r, t)).2
  | 0, r, t, h0, h1, ht => ⟨h0, h1, ht⟩
  | n + 1, r, t, h0, h1, ht => by
    rw [roundsF_succ]
    obtain ⟨a, b, d⟩ := roundsF_in hs (n := n) h0 h1 ht
    exact stepsF_in hs a b d
/-- behind n rounds -/
def afterF (c : Int) (ss : List Stp) (r : Int) (n : Nat) : Int × Int := roundsF c ss n (r, 0)

/-! ### steps over the heap -/
def StepAt (H : Hp) (v : V) (s : Stp) : Prop := ∃ t, v = .ref t ∧ H t = some (.tup (stpV s))
def Steps (H : Hp) (vs : List V) (ss : List Stp) : Prop := Paired (StepAt H) vs ss
theorem Steps.get {H : Hp} : ∀ {vs : List V} {ss : List Stp} {i : Nat} {v : V}, Steps H vs ss → vs[i]? = some v → ∃ s, ss[i]? = some s ∧ StepAt H v s
  | [], [], i, v, .nil, e => by simp at e
  | _, _, 0, v, .cons r _, e => by
    have e' : _ = v := Option.some.inj e
    subst e'
    exact ⟨_, rfl, r⟩
  | _, _, i + 1, v, .cons _ t, e => by
    obtain ⟨s, h1, h2⟩ := Steps.get (i := i) (v := v) t e
    exact ⟨s, h1, h2⟩
theorem Steps.length {H : Hp} {vs : List V} {ss : List Stp} (h : Steps H vs ss) : vs.length = ss.length := Paired.length h
theorem Steps.append {H : Hp} : ∀ {vs ws : List V} {ss us : List Stp}, Steps H vs ss → Steps H ws us → Steps H (vs ++ ws) (ss ++ us)
  | _, _, _, _, .nil, b => b
  | _, _, _, _, .cons r t, b => .cons r (Steps.append t b)
theorem Steps.mono {H H' : Hp} {vs : List V} {ss : List Stp} (h : Steps H vs ss) (k : ∀ t xs, H t = some (.tup xs) → H' t = some (.tup xs)) : Steps H' vs ss :=
  Paired.mapP h fun _ _ ⟨t, e, q⟩ => ⟨t, e, k t _ q⟩
theorem Steps.same {H H' : Hp} {vs : List V} {ss : List Stp} (h : Steps H vs ss) (k : Same H H') : Steps H' vs ss := h.mono fun t xs e => k t _ e
theorem Steps.get2 {H : Hp} {vs : List V} {ss : List Stp} (h : Steps H vs ss) {i : Nat} {s : Stp} (e : ss[i]? = some s) : ∃ v, vs[i]? = some v ∧ StepAt H v s := by
  have hi : i < vs.length := by rw [h.length]; exact (List.getElem?_eq_some_iff.mp e).1
  obtain ⟨s', h1, h2⟩ := h.get (List.getElem?_eq_getElem hi)
  rw [e] at h1
  cases h1
  exact ⟨_, List.getElem?_eq_getElem hi, h2⟩
/-- a plan -/
def PlanAt (C : Addr) (H : Hp) (p : Addr) (ss : List Stp) : Prop := ∃ dx tp ws, H p = some (.ins C dx [("step_tuple", .ref tp)]) ∧ H tp = some (.tup ws) ∧ Steps H ws ss
theorem PlanAt.same {C : Addr} {H H' : Hp} {p : Addr} {ss : List Stp} (h : PlanAt C H p ss) (k : Same H H') : PlanAt C H' p ss :=
  let ⟨dx, tp, ws, a, b, d⟩ := h
  ⟨dx, tp, ws, k _ _ a, k _ _ b, d.same k⟩
/-- all but what stands at s is as it was -/
def But (s : Addr) (H H' : Hp) : Prop := ∀ b o, b ≠ s → H b = some o → H' b = some o
theorem But.refl (s : Addr) (H : Hp) : But s H H := fun _ _ _ e => e
theorem But.trans {s : Addr} {H H1 H2 : Hp} (a : But s H H1) (b : But s H1 H2) : But s H H2 := fun c o n e => b c o n (a c o n e)
theorem But.of {s : Addr} {H H' : Hp} (a : Same H H') : But s H H' := fun c o _ e => a c o e
/-- a list that nobody writes: locked, or of the written part -/
def SqF (K : PySem.W.Frag) (H : Hp) (a : Addr) (xs : List V) : Prop := (∃ o, H a = some (.frz o (.lst xs))) ∨ SqL K (fun _ => none) a xs
theorem SqF.sq {K : PySem.W.Frag} {H : Hp} {a : Addr} {xs : List V} (h : SqF K H a xs) : SqL K H a xs := by
  rcases h with h | ((h | ⟨o, h⟩) | h)
  · exact .inl (.inr h)
  · cases h
  · cases h
  · exact .inr h
theorem SqF.keep {K : PySem.W.Frag} {H H' : Hp} {a : Addr} {xs : List V} (h : SqF K H a xs) (k : ∀ b o u, H b = some (.frz o u) → H' b = some (.frz o u)) : SqF K H' a xs := by
  rcases h with ⟨o, h⟩ | h
  · exact .inl ⟨o, k _ _ _ h⟩
  · exact .inr h
theorem sqF_of {K : PySem.W.Frag} {H : Hp} {a : Addr} {xs : List V} (h : SqL K H a xs) (o : Only H) : SqF K H a xs := by
  rcases h with (h | h) | h
  · rcases o a with q | ⟨ob, ys, q⟩
    · rw [q] at h
      cases h
    · rw [q] at h
      cases h
  · exact .inl h
  · exact .inr (.inr h)
/-- the drawing's state: a list of the script, a place, two numbers -/
def DrawAt (K : PySem.W.Frag) (H : Hp) (s : Addr) : Prop := ∃ (a : Addr) (ns : List Int) (p x y : Int), H s = some (.lst [.ref a, .int p, .int x, .int y]) ∧ SqF K H a (ns.map V.int) ∧ ns.length ≤ 63 ∧ 0 ≤ p
theorem DrawAt.lst {K : PySem.W.Frag} {H : Hp} {s : Addr} (h : DrawAt K H s) : ∃ xs, H s = some (.lst xs) := let ⟨_, _, _, _, _, e, _⟩ := h; ⟨_, e⟩
theorem DrawAt.same {K : PySem.W.Frag} {H H' : Hp} {s : Addr} (h : DrawAt K H s) (k : Same H H') : DrawAt K H' s :=
  let ⟨a, ns, p, x, y, e, q, l, z⟩ := h
  ⟨a, ns, p, x, y, k _ _ e, q.keep fun b o u e => k b _ e, l, z⟩
/-- .. a list changed elsewhere -/
theorem DrawAt.but {K : PySem.W.Frag} {H H' : Hp} {s l : Addr} (h : DrawAt K H s) (k : But l H H') (hl : ∃ xs, H l = some (.lst xs)) (n : s ≠ l) : DrawAt K H' s :=
  let ⟨a, ns, p, x, y, e, q, z⟩ := h
  ⟨a, ns, p, x, y, k _ _ n e, q.keep fun b o u e => k b _ (let ⟨_, e2⟩ := hl; ne_of e e2 (fun q => nomatch q)) e, z⟩
theorem Steps.but {H H' : Hp} {s : Addr} {vs : List V} {ss : List Stp} (h : Steps H vs ss) (k : But s H H') (hs : ∃ xs, H s = some (.lst xs)) : Steps H' vs ss :=
  h.mono fun t xs e => k t _ (let ⟨_, e2⟩ := hs; ne_of e e2 (fun q => nomatch q)) e
theorem PlanAt.but {C : Addr} {H H' : Hp} {p s : Addr} {ss : List Stp} (h : PlanAt C H p ss) (k : But s H H') (hs : ∃ xs, H s = some (.lst xs)) : PlanAt C H' p ss := by
  obtain ⟨dx, tp, ws, a, b, d⟩ := h
  obtain ⟨ys, e2⟩ := id hs
  exact ⟨dx, tp, ws, k _ _ (ne_of a e2 (fun q => nomatch q)) a, k _ _ (ne_of b e2 (fun q => nomatch q)) b, d.but k hs⟩
theorem same_upd {H : Hp} {p : Addr} {o : HO} (h : H p = none) : Same H (upd H p o) := fun b u e => by
  rw [upd_ne (ne_of_none e h)]
  exact e
theorem but_upd {H : Hp} {p : Addr} {o : HO} : But p H (upd H p o) := fun b u n e => by
  rw [upd_ne n]
  exact e
theorem lk_self {f : Str} {v : V} : List.lookup f [(f, v)] = some v := by simp [List.lookup]
theorem lk_no {f g : Str} {v : V} (h : ¬ (f == g) = true) : List.lookup f [(g, v)] = none := by
  have e : (f == g) = false := by simpa using h
  simp [List.lookup, e]
theorem room_eq (b : Bool) : decide (V.str (roomS b) = V.str "red") = b := by
  cases b <;> decide +kernel
theorem eqv_turn : PyData.eqv (.tuple [.str "turn"]) (.tuple [.str "turn"]) = true := by decide +kernel
theorem eqv_meet (b : Bool) (n : Int) : PyData.eqv (.tuple [.str (roomS b), .int n]) (.tuple [.str "turn"]) = false := by
  cases b <;> simp [PyData.eqv, PyData.eqvAll, roomS]
theorem shaped_meet (b : Bool) (n : Int) : SeqAt.shaped (.tuple [.str (roomS b), .int n]) = true := by
  have h1 : PyData.strOk (roomS b) = true := by cases b <;> decide +kernel
  simp [SeqAt.shaped, PyData.canLay0, PyData.canLayAll0, PyData.depth, PyData.depthAll, h1]
end Cc

namespace Cc
open PySem PySem.Spec PyProof.Rows L2
/-! ### the text by places -/
def top (i : Nat) : Stmt := PySem.Challenge.pw_chaircarry_k05_first_difference.main.body.getD i (.Pass ⟨0, 0, 0, 0⟩)
abbrev sIsNum : Stmt := top 8
abbrev sIsWhole : Stmt := top 7
abbrev sChkNum : Stmt := top 9
abbrev sChkHouse : Stmt := top 10
abbrev sIsStep : Stmt := top 13
abbrev sInit : Stmt := inClass (top 14) 2
abbrev sSteps : Stmt := inClass (top 14) 4
abbrev sJoined : Stmt := inClass (top 14) 6
/-! ### promises -/
def spIsWhole : Sp := fun vs H Q _ => ∃ v : Int, vs = [.int v] ∧ Q (.bl true) H
def spIsNum : Sp := fun vs H Q _ => ∃ (v a b : Int), vs = [.int v, .int a, .int b] ∧ Q (.bl (decide (a ≤ v ∧ v ≤ b))) H
def spChkNum : Sp := fun vs H Q _ => ∃ (v a b : Int), vs = [.int v, .int a, .int b] ∧ a ≤ v ∧ v ≤ b ∧ Q .non H
def spChkHouse (C : Addr) : Sp := fun vs H Q _ => ∃ (p : Addr) (c : Int) (ss : List Stp), vs = [.ref p, .int c] ∧ PlanAt C H p ss ∧ 0 ≤ c ∧ c ≤ 1000000000000000000 ∧ (∀ s ∈ ss, s.ok c) ∧ ss.length ≤ 60 ∧ ∀ H', Same H H' → Q .non H'
def spIsStep : Sp := fun vs H Q _ => ∃ (v : V) (s : Stp), vs = [v] ∧ StepAt H v s ∧ s.ok 1000000000000000000 ∧ ∀ H', Same H H' → Q (.bl true) H'
def spInitS (C : Addr) : Sp := fun vs H Q _ => ∃ (x tp dx : Addr) (ws : List V) (ss : List Stp), vs = [.ref x, .ref tp] ∧ H x = some (.ins C dx []) ∧ H tp = some (.tup ws) ∧ Steps H ws ss ∧ ss.length ≤ 60 ∧ (∀ s ∈ ss, s.ok 1000000000000000000) ∧
  ∀ H', But x H H' → H' x = some (.ins C dx [("step_tuple", .ref tp)]) → Q .non H'
/-- Plan.__init__ by positional values -/
def spInit (C : Addr) : Sp := fun vs H Q _ => ∃ (x dx : Addr) (ws : List V) (ss : List Stp), vs = .ref x :: ws ∧ H x = some (.ins C dx []) ∧ Steps H ws ss ∧ ss.length ≤ 60 ∧ (∀ s ∈ ss, s.ok 1000000000000000000) ∧
  ∀ H' tp, But x H H' → H' x = some (.ins C dx [("step_tuple", .ref tp)]) → H' tp = some (.tup ws) → Q .non H'
def spJoinedS (C : Addr) : Sp := fun vs H Q _ => ∃ (x tp : Addr) (ss : List Stp) (o : Addr) (us : List Stp), vs = [.ref x, .ref tp] ∧ PlanAt C H x ss ∧ H tp = some (.tup [.ref o]) ∧ PlanAt C H o us ∧ (ss ++ us).length ≤ 60 ∧ (∀ s ∈ ss ++ us, s.ok 1000000000000000000) ∧
  ∀ p H', Same H H' → PlanAt C H' p (ss ++ us) → Q (.ref p) H'
def spJoined (C : Addr) : Sp := fun vs H Q _ => ∃ (x : Addr) (ss : List Stp) (o : Addr) (us : List Stp), vs = [.ref x, .ref o] ∧ PlanAt C H x ss ∧ PlanAt C H o us ∧ (ss ++ us).length ≤ 60 ∧ (∀ s ∈ ss ++ us, s.ok 1000000000000000000) ∧
  ∀ p H', Same H H' → PlanAt C H' p (ss ++ us) → Q (.ref p) H'
/-- a def that calls none of the program's: it wants no room of its own -/
theorem fn_low {P : Program} {w : World} {K : PySem.W.Frag} {mg : Str → Option Value} {base : Heap} {x qual : Str} {st : Stmt} {f : Addr} {fd : FuncData} {N ps : List Str} {sp : Sp} (F : Fun K x qual st f fd) (S : FnScope N ps (defScope st)) (len : ∀ vs H Q E, sp vs H Q E → vs.length = ps.length)
    (hb : ∀ (cdv : Value) (A : Around) (outer : List Env) (s : Shared) (H : Hp) (vs : List V) (Q : VK) (E : XK), sp vs H Q E → ∃ t, PSs (cxOf CX0 P w K mg base N qual (defScope st) f cdv A outer s H E).nox (defBody st) t ∧ t { nx := fun _ H' => Q .non H', rt := Q } (start N vs) H) : FnOk P w K mg base CX0 0 f fd ps sp := by
  obtain ⟨oc, od, kV, dc, pm, an, cdv, ct, osl, rfl, lk, hcd⟩ := F.ex
  refine ⟨len, fun A outer s H args us vs Q E hr e0 hbd r hsp => ?_⟩
  have hl := len _ _ _ _ hsp
  have KX : K.In s.heap := e0.mod.kin.keeps (fun b o e => (e0.bs b o e).1)
  have lim := e0.mod.nolimit.keeps (fun b o e => (e0.bs b o e).1)
  have hk : ∀ y ∈ ps.zip us, (defScope st).names.lookup y.1 = some .local ∨ ((defScope st).names.lookup y.1 = some .cell ∧ ((cellsFrom (s.heap.objs.size + 1) (defScope st).names []).lookup y.1).isSome = true) := by
    rintro ⟨n, v⟩ hy
    exact (S.par n (List.of_mem_zip hy).1).imp id fun q => ⟨q, PySem.W.cellsFrom_some _ _ _ (.inl q)⟩
  refine codeAny_call_function hr.depth (KX _ _ lk) rfl S.co S.gen rfl (PySem.W.codeRec_of KX hcd) (hbd _ _ _ _ (wpAny_newFunctionEnv_cells S.kind hk fun env he s1 x => ?_))
  subst he
  obtain ⟨t, ht, hq⟩ := hb cdv A outer s H vs Q E hsp
  refine ⟨lim.keeps (x.toInCall.keep), codeAny_func ?_⟩
  have I : Inv (cxOf CX0 P w K mg base N qual (defScope st) f cdv A outer s H E) [] (start N vs) H s1 := inv_start S hr.hd e0 hl r x
  refine wpAny_mono (ht.nox.run [] s1 (start N vs) H _ I hq) (fun fl s' hs => ?_) fun e s' hs => hs
  match fl, hs with
  | .ret u, ⟨v, σ', H', J, rv, q⟩ => exact ⟨v, H', J.os, J.bare, J.base, J.hok, rv, q⟩
  | .next, ⟨σ', H', J, q⟩ => exact ⟨.non, H', J.os, J.bare, J.base, J.hok, rfl, q⟩
  | .brk, ⟨_, _, _, q⟩ => exact q.elim
  | .cont, ⟨_, _, _, q⟩ => exact q.elim
/-! ### what the top has written -/
structure Bt (mg : Str → Option Value) : Prop where
  isinstance : mg "isinstance" = none
  int : mg "int" = none
  bool : mg "bool" = none
  tuple : mg "tuple" = none
  list : mg "list" = none
  len : mg "len" = none
  max : mg "max" = none
  min : mg "min" = none
  abs : mg "abs" = none
  enumerate : mg "enumerate" = none
  range : mg "range" = none
  sum : mg "sum" = none
  sorted : mg "sorted" = none
  divmod : mg "divmod" = none
  zip : mg "zip" = none
  str : mg "str" = none
structure Txt (K : PySem.W.Frag) (mg : Str → Option Value) (C TU pS gS : Addr) (mc : Value) : Prop where
  b : Bt mg
  cl : Cls K C
  nS : NoAttr K C "step_tuple"
  gP : mg "Plan" = some (.ref C)
  rd : ClX.CRead K C mc
  cs : ∃ u, ClX.CVal K C mc "MAX_STEPS" (.int 60) u
  cc : ∃ u, ClX.CVal K C mc "MAX_CHAIRS" (.int 1000000000000000000) u
  con : ∃ u, Con K C "MAX_CHAIRS" (.int 1000000000000000000) u
  gT : mg "TURN" = some (.ref TU)
  tT : ∀ H, SqT K H TU [.str "turn"]
  pr : PropOf K C "steps" pS gS
section
variable {P : Program} {w : World} {K : PySem.W.Frag} {mg : Str → Option Value} {base : Heap} {C TU pS gS : Addr} {mc : Value}
/-! ### checks -/
theorem scIsWhole : FnScope ["value"] ["value"] (defScope sIsWhole) := ⟨rfl, rfl, rfl, by decide +kernel, rfl, by decide +kernel, by decide +kernel⟩
theorem ok_iswhole {f : Addr} {fd : FuncData} (F : Fun K "is_whole" "is_whole" sIsWhole f fd) (B : Bt mg) : FnOk P w K mg base CX0 0 f fd ["value"] spIsWhole := by
  refine fn_low F scIsWhole (fun vs H Q E h => ?_) (fun cdv A outer s H vs Q E h => ?_)
  · obtain ⟨v, rfl, _⟩ := h
    rfl
  · obtain ⟨v, rfl, k⟩ := h
    refine ⟨_, pss_one (ps_ret (pe_and (pe_callB call_isi (by rfl) B.isinstance (by decide +kernel) (pa_cons (pv 0) (pa_cons (pe_bltn (v := .ty "int") (by rfl) B.int (by decide +kernel) rfl) pa_nil)))
      (pe_one (pe_not (pe_callB call_isi (by rfl) B.isinstance (by decide +kernel) (pa_cons (pv 0) (pa_cons (pe_bltn (v := .ty "bool") (by rfl) B.bool (by decide +kernel) rfl) pa_nil))))))), ?_⟩
    refine ⟨_, rfl, _, _, _, _, true, rfl, .ty "int", .base (.int v), kit_ty (by decide +kernel), true, rfl, ?_⟩
    exact iteT ⟨_, rfl, _, _, _, _, false, rfl, .ty "bool", .base (.int v), kit_ty (by decide +kernel), false, rfl, k⟩
theorem scIsNum : FnScope ["value", "least", "most"] ["value", "least", "most"] (defScope sIsNum) := ⟨rfl, rfl, rfl, by decide +kernel, rfl, by decide +kernel, by decide +kernel⟩
theorem ok_isnum {f fW : Addr} {fd : FuncData} (F : Fun K "is_number" "is_number" sIsNum f fd) (W : Dn P w K mg base 0 "is_whole" fW spIsWhole) : FnOk P w K mg base CX0 1 f fd ["value", "least", "most"] spIsNum := by
  refine F.ok scIsNum (fun vs H Q E h => ?_) (fun cdv A outer s H vs Q E hr h => ?_)
  · obtain ⟨v, a, b, rfl, _⟩ := h
    rfl
  · obtain ⟨v, a, b, rfl, k⟩ := h
    refine ⟨_, pss_one (ps_ret (pe_and (pe_callR W.ok hr rfl W.at_ W.kp pass0 (pa_cons (pv 0) pa_nil))
      (pe_one (pe_chain op_le op_le (pv 1) (pv 0) (pv 2))))), ?_⟩
    refine ⟨_, rfl, v, rfl, true, rfl, ?_⟩
    refine iteT ⟨_, rfl, _, rfl, _, _, rfl, rfl, _, rfl, ?_⟩
    by_cases c : a ≤ v
    · rw [decide_eq_true c]
      refine iteT ⟨_, rfl, _, _, rfl, rfl, ?_⟩
      have e : decide (v ≤ b) = decide (a ≤ v ∧ v ≤ b) := by simp [c]
      show Q (V.bl (decide (v ≤ b))) H
      rw [e]
      exact k
    · rw [if_neg (by simp [c])]
      have e : (false : Bool) = decide (a ≤ v ∧ v ≤ b) := by simp [c]
      show Q (V.bl false) H
      rw [e]
      exact k
theorem scChkNum : FnScope ["value", "least", "most"] ["value", "least", "most"] (defScope sChkNum) := ⟨rfl, rfl, rfl, by decide +kernel, rfl, by decide +kernel, by decide +kernel⟩
theorem ok_chknum {f fN : Addr} {fd : FuncData} (F : Fun K "check_number" "check_number" sChkNum f fd) (N : Dn P w K mg base 1 "is_number" fN spIsNum) : FnOk P w K mg base CX0 2 f fd ["value", "least", "most"] spChkNum := by
  refine F.ok scChkNum (fun vs H Q E h => ?_) (fun cdv A outer s H vs Q E hr h => ?_)
  · obtain ⟨v, a, b, rfl, _⟩ := h
    rfl
  · obtain ⟨v, a, b, rfl, h1, h2, k⟩ := h
    refine ⟨_, pss_one (ps_if (pt_not (pt_val (pe_callR N.ok hr rfl N.at_ N.kp pass0 (pa_cons (pv 0) (pa_cons (pv 1) (pa_cons (pv 2) pa_nil)))))) (pss_one ps_never) pss_nil), ?_⟩
    refine ⟨_, rfl, _, rfl, _, rfl, v, a, b, rfl, _, rfl, ?_⟩
    rw [decide_eq_true (show a ≤ v ∧ v ≤ b from ⟨h1, h2⟩)]
    exact iteF k
/-! ### the plan's own -/
theorem scSteps : FnScope ["self"] ["self"] (defScope sSteps) := ⟨rfl, rfl, rfl, by decide +kernel, rfl, by decide +kernel, by decide +kernel⟩
theorem ok_steps {f : Addr} {fd : FuncData} (F : Fun K "steps" "Plan.steps" sSteps f fd) (T : Txt K mg C TU pS gS mc) : FnOk P w K mg base CX0 1 f fd ["self"] (getSp C "step_tuple") := by
  refine F.ok scSteps (fun vs H Q E h => ?_) (fun cdv A outer s H vs Q E hr h => ?_)
  · obtain ⟨a, dx, fs, v, rfl, _⟩ := h
    rfl
  · obtain ⟨a, dx, fs, v, rfl, h1, h2, k⟩ := h
    exact ⟨_, pss_one (ps_ret (pe_fld (pv 0) rfl)), _, rfl, a, C, dx, fs, v, rfl, h1, T.cl, T.nS, h2, k⟩
/-- e.steps, e a plan -/
structure Gs (P : Program) (w : World) (K : PySem.W.Frag) (mg : Str → Option Value) (base : Heap) (C gS : Addr) (fd : FuncData) : Prop where
  ok : FnOk P w K mg base CX0 1 gS fd ["self"] (getSp C "step_tuple")
  b : Binds K fd ["self"] []
theorem scChkHouse : FnScope ["plan", "chairs", "index", "step"] ["plan", "chairs"] (defScope sChkHouse) := ⟨rfl, rfl, rfl, by decide +kernel, rfl, by decide +kernel, by decide +kernel⟩
theorem ok_chkhouse {f fN : Addr} {fd fdS : FuncData} (F : Fun K "check_house" "check_house" sChkHouse f fd) (T : Txt K mg C TU pS gS mc) (G : Gs P w K mg base C gS fdS) (N : Dn P w K mg base 2 "check_number" fN spChkNum) :
    FnOk P w K mg base CX0 3 f fd ["plan", "chairs"] (spChkHouse C) := by
  refine F.ok scChkHouse (fun vs H Q E h => ?_) (fun cdv A outer s H vs Q E hr h => ?_)
  · obtain ⟨p, c, ss, rfl, _⟩ := h
    rfl
  · obtain ⟨p, c, ss, rfl, hp, h0, h1, hs, hl, k⟩ := h
    obtain ⟨dx, tp, ws, e1, e2, e3⟩ := id hp
    obtain ⟨u, hu⟩ := T.con
    refine ⟨_, pss_cons (ps_expr (pe_callR N.ok hr rfl N.at_ N.kp pass0 (pa_cons (pv 1) (pa_cons pe_int (pa_cons (pe_con (pv 0) rfl) pa_nil)))))
      (pss_one (ps_for PassesOwn.never rfl (pi_enumT (by rfl) T.b.enumerate (pa_cons (pe_prop (pv 0) T.cl T.pr G.ok hr G.b .nil pass0 rfl) pa_nil))
        (pg_tup rfl (pgs_cons (pg_name (i := 2) scChkHouse.nd rfl (.inl rfl)) (pgs_cons (pg_name (i := 3) scChkHouse.nd rfl (.inl rfl)) pgs_nil)))
        (pss_one (ps_if (PW.pt (pw_and (pt_cmpR op_eq (pe_callB call_len (by rfl) T.b.len PySem.boot_len (pa_cons (pv 3) pa_nil)) pe_int (nomark _))
          (pw_and1 (pt_cmpR op_gt (pe_ix ix_tup (pv 3) pe_int (fun _ _ => rfl)) (pv 1) (nomark _))))) (pss_one ps_never) pss_nil)))), ?_⟩
    refine ⟨_, rfl, _, rfl, p, C, dx, _, _, u, rfl, e1, T.cl, hu, lk_no (by decide +kernel), c, 0, _, rfl, h0, h1, ?_⟩
    refine ⟨_, rfl, p, dx, _, rfl, e1, p, dx, _, _, rfl, e1, lk_self, tp, ws, rfl, SqT.of e2, ?_⟩
    refine for_it (walk_enumT (xs := ws)) (fun i σ H' => ∃ a b, σ = [some (.ref p), some (.int c), a, b] ∧ Same H H') ⟨none, none, rfl, Same.refl H⟩ (fun i σ H' _ ⟨_, _, _, s1⟩ => SqT.of (s1 _ _ e2)) ?_ ?_
    · rintro i x σ H1 H2 hi ⟨a, b, rfl, s1⟩ ⟨q, y1, y2, rfl, n1, rfl, z1, z2⟩
      obtain ⟨st, hst, t, rfl, ht⟩ := e3.get z2
      have okst := hs st (List.mem_of_getElem? hst)
      have s2 : Same H (upd H1 q (.tup [y1, .ref t])) := s1.trans (same_upd n1)
      have ht2 := s2 _ _ ht
      refine ⟨q, _, rfl, SqT.of upd_same, rfl, _, _, rfl, _, _, rfl, rfl, ?_⟩
      refine ⟨_, rfl, _, _, rfl, .inr ⟨_, SqT.of ht2, rfl⟩, rfl, ?_⟩
      cases st with
      | turn =>
        refine ⟨_, rfl, ?_⟩
        refine iteF ?_
        exact iteF ⟨_, _, rfl, s2⟩
      | meet bb n =>
        refine ⟨_, rfl, iteT ⟨_, rfl, t, _, _, _, rfl, rfl, SqT.of ht2, at_of (j := 1) rfl rfl, _, rfl, _, _, rfl, rfl, _, rfl, ?_⟩⟩
        rw [decide_eq_false (show ¬ c < n from Int.not_lt.mpr okst.2)]
        exact iteF ⟨_, _, rfl, s2⟩
    · rintro σ H' ⟨a, b, rfl, s1⟩
      exact k H' s1
/-! ### is_step, Plan( *steps), joined -/
theorem scIsStep : FnScope ["step"] ["step"] (defScope sIsStep) := ⟨rfl, rfl, rfl, by decide +kernel, rfl, by decide +kernel, by decide +kernel⟩
theorem ok_isstep {f fN : Addr} {fd : FuncData} (F : Fun K "is_step" "is_step" sIsStep f fd) (T : Txt K mg C TU pS gS mc) (N : Dn P w K mg base 1 "is_number" fN spIsNum) : FnOk P w K mg base CX0 2 f fd ["step"] spIsStep := by
  refine F.ok scIsStep (fun vs H Q E h => ?_) (fun cdv A outer s H vs Q E hr h => ?_)
  · obtain ⟨v, s, rfl, _⟩ := h
    rfl
  · obtain ⟨v, st, rfl, ⟨t, rfl, ht⟩, ok, k⟩ := h
    obtain ⟨u, hu⟩ := T.cc
    refine ⟨_, pss_cons (ps_if (pt_not (pt_val (pe_callB call_isi (by rfl) T.b.isinstance (by decide +kernel) (pa_cons (pv 0) (pa_cons (pe_bltn (v := .ty "tuple") (by rfl) T.b.tuple (by decide +kernel) rfl) pa_nil))))) (pss_one (ps_ret pe_bl)) pss_nil)
      (pss_cons (ps_if (pt_cmpR op_eq (pe_callB call_len (by rfl) T.b.len PySem.boot_len (pa_cons (pv 0) pa_nil)) pe_int (nomark _))
        (pss_one (ps_ret (pe_and (pe_cmpR op_in_seq (pe_ix ix_tup (pv 0) pe_int (fun _ _ => rfl)) (pe_tup (pa_cons pe_str (pa_cons pe_str pa_nil))) (by rfl))
          (pe_one (pe_callR N.ok hr rfl N.at_ N.kp pass0 (pa_cons (pe_ix ix_tup (pv 0) pe_int (fun _ _ => rfl)) (pa_cons pe_int (pa_cons (ClX.pe_cval (pe_glob (v := .ref C) rfl T.gP rfl)) pa_nil)))))))) pss_nil)
      (pss_one (ps_ret (pe_cmpR (op_eqD hr.units) (pv 0) (pe_glob (v := .ref TU) rfl T.gT rfl) (nomark _))))), ?_⟩
    refine ⟨_, rfl, _, _, _, _, true, rfl, .ty "tuple", .base (.tup ht), kit_ty (by decide +kernel), true, rfl, ?_⟩
    refine iteF ?_
    refine ⟨_, rfl, _, _, rfl, .inr ⟨_, SqT.of ht, rfl⟩, rfl, ?_⟩
    cases st with
    | turn =>
      refine ⟨_, rfl, iteF ?_⟩
      refine ⟨_, rfl, .tuple [.str "turn"], .tuple [.str "turn"], .tup (SqT.of ht) (.cons (.str _) .nil), .tup (T.tT _) (.cons (.str _) .nil), by decide +kernel, by decide +kernel, ?_⟩
      have e : PyData.eqv (.tuple [.str "turn"]) (.tuple [.str "turn"]) = true := by decide +kernel
      rw [e]
      exact k H (Same.refl H)
    | meet bb n =>
      refine ⟨_, rfl, iteT ?_⟩
      refine ⟨_, rfl, t, _, _, _, rfl, rfl, SqT.of ht, at_of (j := 0) rfl rfl, by show 2 ≤ sizeLine; decide, fun p hp => ?_⟩
      have s1 : Same H (upd H p (.tup [.str "red", .str "blue"])) := same_upd hp
      refine ⟨p, _, rfl, .inr (SqT.of upd_same), rfl, by decide, _, rfl, ?_⟩
      have e : inV (.str (roomS bb)) [.str "red", .str "blue"] = true := by cases bb <;> decide +kernel
      rw [e]
      refine iteT ⟨_, rfl, t, _, _, _, rfl, rfl, SqT.of (s1 _ _ ht), at_of (j := 1) rfl rfl, C, mc, _, u, rfl, T.rd, hu, n, 0, _, rfl, ?_⟩
      rw [decide_eq_true (show (0 : Int) ≤ n ∧ n ≤ 1000000000000000000 from ok)]
      exact k _ s1
theorem scInit : FnScope ["self", "steps", "index", "step"] ["self", "steps"] (defScope sInit) := ⟨rfl, rfl, rfl, by decide +kernel, rfl, by decide +kernel, by decide +kernel⟩
theorem ok_init {f fS : Addr} {fd : FuncData} (F : Fun K "__init__" "Plan.__init__" sInit f fd) (T : Txt K mg C TU pS gS mc) (N : Dn P w K mg base 2 "is_step" fS spIsStep) : FnR P w K mg base CX0 3 f (spInit C) := by
  obtain ⟨z1, z2, z3, z4, z5, z6, cdv, z7, z8, rfl, lk, hcd⟩ := F.ex
  refine (StX.fn_star (ps := ["self"]) (pv := "steps") (sp := spInitS C) (k := 2) lk hcd scInit StX.cxUp_none (StX.bind_star1 (B := fun us => bindArgs _ ⟨us, []⟩) (fun _ => rfl) (fun _ _ _ => rfl)) fun A outer s H vs Q E hr h => ?_).imp fun vs H Q E h => ?_
  · obtain ⟨x, tp, dx, ws, ss, rfl, e1, e2, e3, hl, hs, k⟩ := h
    obtain ⟨u, hu⟩ := T.cs
    suffices h : ∃ t, PSs (cxOf CX0 P w K mg base ["self", "steps", "index", "step"] "Plan.__init__" (defScope sInit) f cdv A outer s H E).nox (defBody sInit) t ∧ t { nx := fun _ H' => Q .non H', rt := Q } (start ["self", "steps", "index", "step"] [.ref x, .ref tp]) H by
      obtain ⟨t, h1, h2⟩ := h
      exact ⟨t, h1.nox, h2⟩
    refine ⟨_, pss_cons (ps_for PassesOwn.never rfl (pi_enumT (by rfl) T.b.enumerate (pa_cons (pv 1) pa_nil))
        (pg_tup rfl (pgs_cons (pg_name (i := 2) scInit.nd rfl (.inl rfl)) (pgs_cons (pg_name (i := 3) scInit.nd rfl (.inl rfl)) pgs_nil)))
        (pss_one (ps_if (PW.pt (pw_or (pt_cmpR op_eq (pv 2) (ClX.pe_cval (pe_glob (v := .ref C) rfl T.gP rfl)) (nomark _))
          (pw_or1 (pt_not (pt_val (pe_callR N.ok hr rfl N.at_ N.kp pass0 (pa_cons (pv 3) pa_nil))))))) (pss_one ps_never) pss_nil)))
      (pss_one (ps_fld (pv 0) (pv 1) rfl)), ?_⟩
    refine ⟨_, rfl, tp, ws, rfl, SqT.of e2, ?_⟩
    refine for_it (walk_enumT (xs := ws)) (fun i σ H' => ∃ a b, σ = [some (.ref x), some (.ref tp), a, b] ∧ Same H H') ⟨none, none, rfl, Same.refl H⟩ (fun i σ H' _ ⟨_, _, _, s1⟩ => SqT.of (s1 _ _ e2)) ?_ ?_
    · rintro i v σ H1 H2 hi ⟨a, b, rfl, s1⟩ ⟨q, y1, y2, rfl, n1, rfl, z1, z2⟩
      obtain ⟨st, hst, t, rfl, ht⟩ := e3.get z2
      have okst := hs st (List.mem_of_getElem? hst)
      have s2 : Same H (upd H1 q (.tup [y1, .ref t])) := s1.trans (same_upd n1)
      have ht2 := s2 _ _ ht
      cases z1
      refine ⟨q, _, rfl, SqT.of upd_same, rfl, _, _, rfl, _, _, rfl, rfl, ?_⟩
      have hi' : i < 60 := by rw [e3.length] at hi; omega
      refine ⟨_, rfl, C, mc, _, u, rfl, T.rd, hu, rfl, _, rfl, ?_⟩
      rw [decide_eq_false (show ¬ V.int (i : Int) = V.int 60 from fun z => by injection z with z; omega)]
      refine iteF ?_
      refine ⟨_, rfl, _, st, rfl, ⟨t, rfl, ht2⟩, okst, fun H3 s3 => ⟨_, rfl, ?_⟩⟩
      exact iteF ⟨_, _, rfl, s2.trans s3⟩
    · rintro σ H' ⟨a, b, rfl, s1⟩
      refine ⟨_, rfl, _, rfl, x, C, dx, _, rfl, s1 _ _ e1, T.cl, T.nS, (by show 0 < 1000; decide), ?_⟩
      exact k _ (fun b o n e => by rw [upd_ne n]; exact s1 _ _ e) upd_same
  · obtain ⟨x, dx, ws, ss, rfl, e1, e3, hl, hs, k⟩ := h
    refine ⟨[.ref x], ws, rfl, rfl, ?_, fun p hp => ?_⟩
    · rw [e3.length]
      exact Nat.le_trans hl (by decide)
    · have s1 : Same H (upd H p (.tup ws)) := same_upd hp
      refine ⟨x, p, dx, ws, ss, rfl, s1 _ _ e1, upd_same, e3.same s1, hl, hs, fun H' b1 b2 => ?_⟩
      exact k H' p (fun b o n e => b1 b o n (s1 _ _ e)) b2 (b1 _ _ (ne_of_none e1 hp).symm upd_same)
theorem scJoined : FnScope ["self", "others", "steps", "other"] ["self", "others"] (defScope sJoined) := ⟨rfl, rfl, rfl, by decide +kernel, rfl, by decide +kernel, by decide +kernel⟩
theorem ok_joined {f fI : Addr} {fd fdS : FuncData} (F : Fun K "joined" "Plan.joined" sJoined f fd) (T : Txt K mg C TU pS gS mc) (G : Gs P w K mg base C gS fdS) (M : Mk K C fI) (GI : FnR P w K mg base CX0 3 fI (spInit C)) : FnR P w K mg base CX0 5 f (spJoined C) := by
  obtain ⟨z1, z2, z3, z4, z5, z6, cdv, z7, z8, rfl, lk, hcd⟩ := F.ex
  refine (StX.fn_star (ps := ["self"]) (pv := "others") (sp := spJoinedS C) (k := 4) lk hcd scJoined StX.cxUp_none (StX.bind_star1 (B := fun us => bindArgs _ ⟨us, []⟩) (fun _ => rfl) (fun _ _ _ => rfl)) fun A outer s H vs Q E hr h => ?_).imp fun vs H Q E h => ?_
  · obtain ⟨x, tp, ss, o, us, rfl, p1, e2, p2, hl, hs, k⟩ := h
    obtain ⟨dx, t1, ws, e1, e3, e4⟩ := id p1
    obtain ⟨dy, t2, zs, f1, f3, f4⟩ := id p2
    suffices h : ∃ t, PSs (cxOf CX0 P w K mg base ["self", "others", "steps", "other"] "Plan.joined" (defScope sJoined) f cdv A outer s H E).nox (defBody sJoined) t ∧ t { nx := fun _ H' => Q .non H', rt := Q } (start ["self", "others", "steps", "other"] [.ref x, .ref tp]) H by
      obtain ⟨t, h1, h2⟩ := h
      exact ⟨t, h1.nox, h2⟩
    have hr1 : Room 2 _ := hr.mono (by decide)
    refine ⟨_, pss_cons (ps_set (i := 2) scJoined.nd rfl (.inl rfl) (pe_callTy call_list_of (by rfl) T.b.list (by decide +kernel) (pa_cons (pe_prop (pv 0) T.cl T.pr G.ok hr1 G.b .nil pass0 rfl) pa_nil)))
      (pss_cons (ps_for PassesOwn.never rfl (pi_tup (pv 1)) (pg_name (i := 3) scJoined.nd rfl (.inl rfl))
        (pss_one (ps_expr (pe_bm PySem.F.plainAttrs_list PySem.F.slot_list_extend PySem.F.type_list_extend mt_extendT (pv 2) (pa_cons (pe_prop (pv 3) T.cl T.pr G.ok hr1 G.b .nil pass0 rfl) pa_nil)))))
      (pss_one (ps_ret (pe_makeS M GI hr rfl T.gP pass0 (pv 2))))), ?_⟩
    refine ⟨_, rfl, x, dx, _, rfl, e1, x, dx, _, _, rfl, e1, lk_self, t1, ws, rfl, .inr (SqT.of e3), fun l hl0 => ?_⟩
    have s1 : Same H (upd H l (.lst ws)) := same_upd hl0
    have hlen : ws.length + zs.length ≤ 60 := by
      rw [e4.length, f4.length]
      rw [List.length_append] at hl
      exact hl
    refine ⟨_, rfl, tp, rfl, ⟨_, SqT.of (s1 _ _ e2)⟩, for_tup (K := K) (a := tp) (xs := [V.ref o]) (fun i σ H' => ∃ v, σ = [some (.ref x), some (.ref tp), some (.ref l), v] ∧ But l H H' ∧ H' l = some (.lst (if i = 0 then ws else ws ++ zs)))
      ⟨none, rfl, But.of s1, upd_same⟩ (fun i σ H' _ ⟨_, _, b1, _⟩ => SqT.of (b1 _ _ (ne_of_none e2 hl0) e2)) ?_ ?_⟩
    · rintro i y σ H' hi ⟨v, rfl, b1, b2⟩
      match i, hi with
      | 0, hi =>
        cases hi
        have g1 := b1 _ _ (ne_of_none f1 hl0) f1
        have g3 := b1 _ _ (ne_of_none f3 hl0) f3
        rw [if_pos rfl] at b2
        refine ⟨_, rfl, .inl ⟨rfl, _, SqL.of b2⟩, _, rfl, o, dy, _, rfl, g1, o, dy, _, _, rfl, g1, lk_self, l, t2, ws, zs, rfl, rfl, b2, SqT.of g3, Nat.le_trans hlen (by decide), ?_⟩
        refine ⟨_, rfl, fun b o n e => ?_, ?_⟩
        · rw [upd_ne n]
          exact b1 b o n e
        · rw [if_neg (by decide)]
          exact upd_same
      | i + 1, hi => simp at hi
    · rintro σ H' ⟨v, rfl, b1, b2⟩
      rw [if_neg (by show ¬ (1 = 0); decide)] at b2
      refine ⟨_, rfl, l, _, rfl, .inr (SqL.of b2), fun q dq hq hdq hne => ?_⟩
      have s2 : Same H' (upd (upd H' dq (.own q)) q (.ins C dq [])) := fun b o e => by
        rw [upd_ne (ne_of_none e hq), upd_ne (ne_of_none e hdq)]
        exact e
      have stp : Steps H' (ws ++ zs) (ss ++ us) := by
        refine (e4.append f4).mono fun t xs e => b1 _ _ (ne_of_none e hl0) e
      refine ⟨q, dq, _, ss ++ us, rfl, upd_same, stp.same s2, hl, hs, fun H2 tq b3 b4 b5 => ⟨rfl, ?_⟩⟩
      have s3 : Same H H2 := fun b o e => b3 _ _ (ne_of_none (b1 _ _ (ne_of_none e hl0) e) hq) (s2 _ _ (b1 _ _ (ne_of_none e hl0) e))
      refine k q H2 s3 ⟨dq, tq, _, b4, b5, ?_⟩
      exact stp.mono fun t xs e => b3 _ _ (ne_of_none e hq) (s2 _ _ e)
  · obtain ⟨x, ss, o, us, rfl, p1, p2, hl, hs, k⟩ := h
    refine ⟨[.ref x], [.ref o], rfl, rfl, by show 1 ≤ sizeLine; decide, fun p hp => ?_⟩
    have s1 : Same H (upd H p (.tup [.ref o])) := same_upd hp
    exact ⟨x, p, ss, o, us, rfl, p1.same s1, upd_same, p2.same s1, hl, hs, fun p' H' s2 => k p' H' (s1.trans s2)⟩
end
end Cc

namespace Cc
open PySem PySem.Spec PyProof.Rows L2
abbrev sStart : Stmt := top 27
abbrev sDrawn : Stmt := top 28
abbrev sRnd : Stmt := top 30
abbrev sLPlan : Stmt := top 31
def spStart (K : PySem.W.Frag) : Sp := fun vs H Q _ => ∃ (a : Addr) (ns : List Int), vs = [.ref a] ∧ SqF K H a (ns.map V.int) ∧ ns.length ≤ 63 ∧ ∀ s H', H s = none → Same H H' → DrawAt K H' s → Q (.ref s) H'
def spDrawn (K : PySem.W.Frag) : Sp := fun vs H Q _ => ∃ (s : Addr) (n : Int), vs = [.ref s, .int n] ∧ DrawAt K H s ∧ 0 < n ∧ n ≤ 9223372036854775807 ∧ ∀ r H', 0 ≤ r → r < n → DrawAt K H' s → But s H H' → Q (.int r) H'
def spRnd (K : PySem.W.Frag) : Sp := fun vs H Q _ => ∃ (s : Addr) (m c : Int), vs = [.ref s, .int m, .int c] ∧ DrawAt K H s ∧ 0 ≤ m ∧ m ≤ 50 ∧ 0 ≤ c ∧ c ≤ 1000000000000000000 ∧
  ∀ l ws ss H', H l = none → H' l = some (.lst ws) → Steps H' ws ss → (ss.length : Int) ≤ m → (∀ s ∈ ss, s.ok c) → DrawAt K H' s → But s H H' → Q (.ref l) H'
def spLPlan (C : Addr) : Sp := fun vs H Q _ => ∃ (l : Addr) (ws : List V) (ss : List Stp), vs = [.ref l] ∧ H l = some (.lst ws) ∧ Steps H ws ss ∧ ss.length ≤ 60 ∧ (∀ s ∈ ss, s.ok 1000000000000000000) ∧ ∀ p H', Same H H' → PlanAt C H' p ss → Q (.ref p) H'
section
variable {P : Program} {w : World} {K : PySem.W.Frag} {mg : Str → Option Value} {base : Heap} {C TU pS gS : Addr} {mc : Value}
theorem scStart : FnScope ["_law_script", "_law_mixed", "_law_cell"] ["_law_script"] (defScope sStart) := ⟨rfl, rfl, rfl, by decide +kernel, rfl, by decide +kernel, by decide +kernel⟩
theorem ok_start {f : Addr} {fd : FuncData} (F : Fun K "_law_start" "_law_start" sStart f fd) : FnOk P w K mg base CX0 1 f fd ["_law_script"] (spStart K) := by
  refine F.ok scStart (fun vs H Q E h => ?_) (fun cdv A outer s H vs Q E hr h => ?_)
  · obtain ⟨a, ns, rfl, _⟩ := h
    rfl
  · obtain ⟨a, ns, rfl, hF, hl, k⟩ := h
    have hS := hF.sq
    refine ⟨_, pss_cons (ps_set (i := 1) scStart.nd rfl (.inl rfl) pe_int)
      (pss_cons (ps_for PassesOwn.never rfl (pi_list (pv 0)) (pg_name (i := 2) scStart.nd rfl (.inl rfl))
        (pss_one (ps_set (i := 1) scStart.nd rfl (.inl rfl) (pe_op op_mod (pe_op op_add (pe_op op_add (pe_op op_mul (pv 1) pe_int) (pv 2)) pe_int) pe_int))))
      (pss_one (ps_ret (pe_lst (pa_cons (pv 0) (pa_cons pe_int (pa_cons (pv 1) (pa_cons pe_int pa_nil)))))))), ?_⟩
    refine ⟨_, rfl, a, rfl, ⟨_, hS⟩, for_list (K := K) (a := a) (xs := ns.map V.int) (fun i σ H' => H' = H ∧ ∃ (m : Int) (v : Option V), σ = [some (.ref a), some (.int m), v]) ⟨rfl, 1, none, rfl⟩ (fun i σ H' _ ⟨e, _⟩ => e ▸ hS) ?_ ?_⟩
    · rintro i y σ H' hi ⟨rfl, m, v, rfl⟩
      obtain ⟨z, rfl⟩ : ∃ z, y = V.int z := by
        rw [List.getElem?_map] at hi
        cases e : ns[i]? with
        | none =>
          rw [e] at hi
          cases hi
        | some z =>
          rw [e] at hi
          exact ⟨z, (Option.some.inj hi).symm⟩
      refine ⟨_, rfl, _, _, rfl, rfl, .inr ⟨by decide, by decide⟩, _, rfl, _, _, rfl, rfl, _, _, rfl, rfl, _, _, rfl, rfl, (by show (0 : Int) < 2147483647; decide), rfl, _, _, rfl⟩
    · rintro σ H' ⟨rfl, m, v, rfl⟩
      refine ⟨_, rfl, _, rfl, by show 4 ≤ sizeLine; decide, fun s hs => ?_⟩
      refine k s _ hs (same_upd hs) ⟨a, ns, 0, m, 0, upd_same, hF.keep fun b o u e => same_upd hs b _ e, hl, Int.le_refl 0⟩
theorem scDrawn : FnScope ["_law_state", "_law_count", "_law_result", "_law_cell"] ["_law_state", "_law_count"] (defScope sDrawn) := ⟨rfl, rfl, rfl, by decide +kernel, rfl, by decide +kernel, by decide +kernel⟩
theorem ok_drawn {f : Addr} {fd : FuncData} (F : Fun K "_law_drawn" "_law_drawn" sDrawn f fd) (B : Bt mg) : FnOk P w K mg base CX0 1 f fd ["_law_state", "_law_count"] (spDrawn K) := by
  refine F.ok scDrawn (fun vs H Q E h => ?_) (fun cdv A outer s H vs Q E hr h => ?_)
  · obtain ⟨s, n, rfl, _⟩ := h
    rfl
  · obtain ⟨s, n, rfl, ⟨a, ns, p, x, y, e, hF, hl, hp⟩, hn, hn2, k⟩ := h
    have hq : ∀ H', But s H H' → SqF K H' a (ns.map V.int) := fun H' b => hF.keep fun c o u q => b c _ (ne_of q e (fun z => nomatch z)) q
    have hw : ∀ i, CDivW i n := fun i => wide_div (b := 63) hn (by omega) (by decide) (by decide)
    refine ⟨_, pss_cons (ps_if (pt_cmpR op_gt (pe_ix ix_list (pv 0) pe_int (fun _ _ => rfl)) pe_int (nomark _))
        (pss_cons (ps_set (i := 2) scDrawn.nd rfl (.inl rfl) (pe_op op_mod (pe_ix ix_list (pv 0) pe_int (fun _ _ => rfl)) (pv 1)))
        (pss_cons (ps_asg (pe_op op_fdivW (pe_ix ix_list (pv 0) pe_int (fun _ _ => rfl)) (pv 1)) (pg_sub (pv 0) pe_int set_list))
        (pss_one (ps_ret (pv 2))))) pss_nil)
      (pss_cons (ps_asg (pe_op op_add (pe_ix ix_list (pv 0) pe_int (fun _ _ => rfl)) pe_int) (pg_sub (pv 0) pe_int set_list))
      (pss_cons (ps_if (pt_cmpR op_le (pe_ix ix_list (pv 0) pe_int (fun _ _ => rfl)) (pe_callB call_len_seq (by rfl) B.len PySem.boot_len (pa_cons (pe_ix ix_list (pv 0) pe_int (fun _ _ => rfl)) pa_nil)) (nomark _))
        (pss_cons (ps_set (i := 3) scDrawn.nd rfl (.inl rfl) (pe_ix ix_list (pe_ix ix_list (pv 0) pe_int (fun _ _ => rfl)) (pe_op op_sub (pe_ix ix_list (pv 0) pe_int (fun _ _ => rfl)) pe_int) (fun _ _ => rfl)))
        (pss_cons (ps_asg (pe_ifExp (pt_cmpR op_ge (pv 3) (pe_op op_pow pe_int pe_int) (nomark _)) (pe_op op_fdivW (pv 3) (pv 1)) pe_int) (pg_sub (pv 0) pe_int set_list))
        (pss_one (ps_ret (pe_op op_mod (pv 3) (pv 1)))))) pss_nil)
      (pss_cons (ps_asg (pe_op op_mod (pe_op op_add (pe_op op_mul (pe_ix ix_list (pv 0) pe_int (fun _ _ => rfl)) pe_int) pe_int) pe_int) (pg_sub (pv 0) pe_int set_list))
      (pss_one (ps_ret (pe_op op_mod (pe_op op_fdiv (pe_ix ix_list (pv 0) pe_int (fun _ _ => rfl)) pe_int) (pv 1))))))), ?_⟩
    have fin : ∀ (r : Int) (p' x' y' : Int) (H' : Hp), 0 ≤ r → r < n → 0 ≤ p' → But s H H' → H' s = some (.lst [.ref a, .int p', .int x', .int y']) → Q (.int r) H' := fun r p' x' y' H' h0 h1 hp' b e' =>
      k r H' h0 h1 ⟨a, ns, p', x', y', e', hq H' b, hl, hp'⟩ b
    refine ⟨_, rfl, s, _, _, _, rfl, rfl, SqL.of e, at_of (j := 3) rfl rfl, _, _, rfl, rfl, _, rfl, ?_⟩
    refine ite2 (fun _ => ?_) (fun _ => ?_)
    · refine ⟨_, rfl, s, _, _, _, rfl, rfl, SqL.of e, at_of (j := 3) rfl rfl, _, rfl, _, _, rfl, rfl, hn, ?_⟩
      refine ⟨_, rfl, s, _, _, _, rfl, rfl, SqL.of e, at_of (j := 3) rfl rfl, _, rfl, _, _, rfl, rfl, hw _, ?_⟩
      refine ⟨_, rfl, s, _, _, 3, rfl, rfl, e, rfl, _, rfl, ?_⟩
      exact fin _ _ _ _ _ (Int.emod_nonneg _ (by omega)) (Int.emod_lt_of_pos _ hn) hp but_upd upd_same
    · refine ⟨_, rfl, s, _, _, _, rfl, rfl, SqL.of e, at_of (j := 1) rfl rfl, _, _, rfl, rfl, ?_⟩
      refine ⟨_, rfl, s, _, _, 1, rfl, rfl, e, rfl, ?_⟩
      have b1 : But s H (upd H s (.lst [.ref a, .int (p + 1), .int x, .int y])) := but_upd
      refine ⟨_, rfl, s, _, _, _, rfl, rfl, SqL.of upd_same, at_of (j := 1) rfl rfl, _, rfl, s, _, _, _, rfl, rfl, SqL.of upd_same, at_of (j := 0) rfl rfl, a, _, rfl, .inl (hq _ b1).sq, _, _, rfl, rfl, _, rfl, ?_⟩
      refine ite2 (fun c => ?_) (fun _ => ?_)
      · have c' : p + 1 ≤ (ns.length : Int) := by
          have := of_decide_eq_true c
          rw [List.length_map] at this
          exact this
        obtain ⟨j, ej⟩ : ∃ j : Nat, p + 1 - 1 = (j : Int) := ⟨p.toNat, by omega⟩
        have hj : j < ns.length := by omega
        refine ⟨_, rfl, s, _, _, _, rfl, rfl, SqL.of upd_same, at_of (j := 0) rfl rfl, _, rfl, s, _, _, _, rfl, rfl, SqL.of upd_same, at_of (j := 1) rfl rfl, _, _, rfl, rfl, a, _, _, _, rfl, rfl, (hq _ b1).sq, at_of (j := j) (v := V.int ns[j]) ej (by rw [List.getElem?_map, List.getElem?_eq_getElem hj]; rfl), ?_⟩
        refine ⟨_, rfl, _, _, rfl, rfl, ⟨by decide, by decide, by decide⟩, _, _, rfl, rfl, _, rfl, ?_⟩
        refine ite2 (fun _ => ?_) (fun _ => ?_)
        · refine ⟨_, rfl, _, rfl, _, _, rfl, rfl, hw _, ?_⟩
          refine ⟨_, rfl, s, _, _, 3, rfl, rfl, upd_same, rfl, _, rfl, _, rfl, _, _, rfl, rfl, hn, ?_⟩
          exact fin _ _ _ _ _ (Int.emod_nonneg _ (by omega)) (Int.emod_lt_of_pos _ hn) (by show 0 ≤ p + 1; omega) (b1.trans but_upd) upd_same
        · refine ⟨_, rfl, s, _, _, 3, rfl, rfl, upd_same, rfl, _, rfl, _, rfl, _, _, rfl, rfl, hn, ?_⟩
          exact fin _ _ _ _ _ (Int.emod_nonneg _ (by omega)) (Int.emod_lt_of_pos _ hn) (by show 0 ≤ p + 1; omega) (b1.trans but_upd) upd_same
      · refine ⟨_, rfl, s, _, _, _, rfl, rfl, SqL.of upd_same, at_of (j := 2) rfl rfl, _, _, rfl, rfl, .inr ⟨by decide, by decide⟩, _, _, rfl, rfl, _, _, rfl, rfl, (by show (0 : Int) < 2147483647; decide), ?_⟩
        refine ⟨_, rfl, s, _, _, 2, rfl, rfl, upd_same, rfl, ?_⟩
        refine ⟨_, rfl, s, _, _, _, rfl, rfl, SqL.of upd_same, at_of (j := 2) rfl rfl, _, _, rfl, rfl, ⟨by decide, by decide⟩, _, rfl, _, _, rfl, rfl, hn, ?_⟩
        exact fin _ _ _ _ _ (Int.emod_nonneg _ (by omega)) (Int.emod_lt_of_pos _ hn) (by show 0 ≤ p + 1; omega) (b1.trans but_upd) upd_same
theorem scRnd : FnScope ["_law_state", "_law_most", "_law_high", "_law_result", "_law_turns", "_law_k", "_law_need"] ["_law_state", "_law_most", "_law_high"] (defScope sRnd) := ⟨rfl, rfl, rfl, by decide +kernel, rfl, by decide +kernel, by decide +kernel⟩
theorem ok_rnd {f fD : Addr} {fd : FuncData} (F : Fun K "_law_random_steps" "_law_random_steps" sRnd f fd) (B : Bt mg) (D : Dn P w K mg base 1 "_law_drawn" fD (spDrawn K)) : FnOk P w K mg base CX0 2 f fd ["_law_state", "_law_most", "_law_high"] (spRnd K) := by
  refine F.ok scRnd (fun vs H Q E h => ?_) (fun cdv A outer s H vs Q E hr h => ?_)
  · obtain ⟨s, m, c, rfl, _⟩ := h
    rfl
  · obtain ⟨s, m, c, rfl, hD, hm0, hm1, hc0, hc1, k⟩ := h
    refine ⟨_, pss_cons (ps_par (i := 3) (j := 4) rfl scRnd.nd rfl rfl (by decide) rfl rfl (pa_cons (pe_lst pa_nil) (pa_cons (pe_callR D.ok hr rfl D.at_ D.kp pass0 (pa_cons (pv 0) (pa_cons pe_int pa_nil))) pa_nil)) (by rfl))
      (pss_cons (ps_for PassesOwn.never rfl (pi_range1 rfl B.range (pa_cons (pe_callR D.ok hr rfl D.at_ D.kp pass0 (pa_cons (pv 0) (pa_cons (pe_op op_add (pv 1) pe_int) pa_nil))) pa_nil)) (pg_name (i := 5) scRnd.nd rfl (.inl rfl))
        (pss_one (ps_if (PW.pt (pw_and (pt_cmpR op_eq (pv 4) pe_int (nomark _)) (pw_and1 (pt_cmpR op_eq (pe_callR D.ok hr rfl D.at_ D.kp pass0 (pa_cons (pv 0) (pa_cons pe_int pa_nil))) pe_int (nomark _)))))
          (pss_one (ps_expr (pe_bm PySem.F.plainAttrs_list PySem.F.slot_list_append PySem.F.type_list_append mt_append (pv 3) (pa_cons (pe_tup (pa_cons pe_str pa_nil)) pa_nil))))
          (pss_cons (ps_set (i := 6) scRnd.nd rfl (.inl rfl) (pe_ix ix_list (pe_lst (pa_cons (pe_callR D.ok hr rfl D.at_ D.kp pass0 (pa_cons (pv 0) (pa_cons (pe_op op_add (pv 2) pe_int) pa_nil)))
              (pa_cons (pe_op op_sub (pv 2) (pe_callR D.ok hr rfl D.at_ D.kp pass0 (pa_cons (pv 0) (pa_cons (pe_op op_add (pe_op op_fdiv (pv 2) pe_int) pe_int) pa_nil)))) pa_nil)))
              (pe_callR D.ok hr rfl D.at_ D.kp pass0 (pa_cons (pv 0) (pa_cons pe_int pa_nil))) (fun _ _ => rfl)))
          (pss_one (ps_expr (pe_bm PySem.F.plainAttrs_list PySem.F.slot_list_append PySem.F.type_list_append mt_append (pv 3) (pa_cons (pe_tup (pa_cons
              (pe_ix ix_list (pe_lst (pa_cons pe_str (pa_cons pe_str pa_nil))) (pe_callR D.ok hr rfl D.at_ D.kp pass0 (pa_cons (pv 0) (pa_cons pe_int pa_nil))) (fun _ _ => rfl)) (pa_cons (pv 6) pa_nil))) pa_nil))))))))
      (pss_one (ps_ret (pv 3)))), ?_⟩
    have ds : ∃ xs, H s = some (.lst xs) := hD.lst
    refine ⟨by show 0 ≤ sizeLine; decide, fun l hl0 => ?_⟩
    have nsl : s ≠ l := let ⟨_, e⟩ := ds; ne_of_none e hl0
    refine ⟨_, rfl, s, 3, rfl, hD.same (same_upd hl0), by decide, by decide, fun tu H1 tu0 tu1 D1 b1 => ⟨_, _, rfl, ?_⟩⟩
    have b01 : But s H H1 := (But.of (same_upd hl0)).trans b1
    have l1 : H1 l = some (.lst []) := b1 _ _ nsl.symm upd_same
    refine ⟨_, rfl, _, rfl, _, _, rfl, rfl, s, m + 1, rfl, D1, by omega, by omega, fun n H2 n0 n1 D2 b2 => ?_⟩
    have b02 : But s H H2 := b01.trans b2
    have l2 : H2 l = some (.lst []) := b2 _ _ nsl.symm l1
    have hnl : (n.toNat : Int) = n := by omega
    refine ⟨n, rfl, by omega, by omega, for_range (lo := 0) (n := n.toNat) (fun i σ H' => ∃ (x y : Option V) (ws : List V) (ss : List Stp), σ = [some (.ref s), some (.int m), some (.int c), some (.ref l), some (.int tu), x, y] ∧ H' l = some (.lst ws) ∧ Steps H' ws ss ∧ ss.length = i ∧ (∀ z ∈ ss, z.ok c) ∧ DrawAt K H' s ∧ But s H H')
      ⟨none, none, [], [], rfl, l2, .nil, rfl, by simp, D2, b02⟩ ?_ ?_⟩
    · rintro i σ H3 hi ⟨x, y, ws, ss, rfl, e3, s3, n3, o3, D3, b3⟩
      have hlen : ws.length < sizeLine := by
        rw [s3.length, n3]
        have : (sizeLine : Nat) = 16777216 := sizeLine_eq
        omega
      -- what a step appended leaves
      have fin : ∀ (H4 : Hp) (t : Addr) (st : Stp) (x' y' : Option V), But s H3 H4 → DrawAt K H4 s → H4 t = some (.tup (stpV st)) → st.ok c → But s H H4 →
          ∃ (x y : Option V) (vs : List V) (us : List Stp), [some (V.ref s), some (.int m), some (.int c), some (.ref l), some (.int tu), x', y'] = [some (.ref s), some (.int m), some (.int c), some (.ref l), some (.int tu), x, y] ∧ (upd H4 l (.lst (ws ++ [.ref t]))) l = some (.lst vs) ∧ Steps (upd H4 l (.lst (ws ++ [.ref t]))) vs us ∧ us.length = i + 1 ∧ (∀ z ∈ us, z.ok c) ∧ DrawAt K (upd H4 l (.lst (ws ++ [.ref t]))) s ∧ But s H (upd H4 l (.lst (ws ++ [.ref t]))) := by
        intro H4 t st x' y' b4 D4 ht ok4 b04
        have l4 : H4 l = some (.lst ws) := b4 _ _ nsl.symm e3
        have up : ∀ u xs, H4 u = some (.tup xs) → upd H4 l (.lst (ws ++ [.ref t])) u = some (.tup xs) := fun u xs e => by
          rw [upd_ne (ne_of e l4 (fun q => nomatch q))]
          exact e
        have b5 : But s H (upd H4 l (.lst (ws ++ [.ref t]))) := fun b o n e => by
          rw [upd_ne (ne_of_none e hl0)]
          exact b04 b o n e
        refine ⟨x', y', ws ++ [.ref t], ss ++ [st], rfl, upd_same, ?_, by rw [List.length_append, n3]; rfl, fun z hz => ?_, ?_, b5⟩
        · refine ((s3.but b4 D3.lst).mono up).append (.cons ⟨t, rfl, up _ _ ht⟩ .nil)
        · rcases List.mem_append.mp hz with q | q
          · exact o3 z q
          · rw [List.mem_singleton.mp q]
            exact ok4
        · exact D4.but but_upd ⟨_, l4⟩ nsl
      -- the first test: turns are drawn
      refine ⟨_, rfl, rfl, _, rfl, ?_⟩
      by_cases htu : V.int tu = V.int 0
      · rw [decide_eq_true htu]
        refine iteT ⟨_, rfl, s, 4, rfl, D3, by decide, by decide, fun r0 H4 _ _ D4 b4 => ⟨rfl, _, rfl, ?_⟩⟩
        have b04 : But s H H4 := b3.trans b4
        by_cases hr0 : V.int r0 = V.int 0
        · rw [decide_eq_true hr0]
          refine iteT ?_
          have l4 : H4 l = some (.lst ws) := b4 _ _ nsl.symm e3
          refine ⟨_, rfl, .inl ⟨rfl, _, SqL.of l4⟩, by show 1 ≤ sizeLine; decide, fun t ht => ?_⟩
          have b5 : But s H4 (upd H4 t (.tup [.str "turn"])) := But.of (same_upd ht)
          refine ⟨l, ws, _, rfl, rfl, (same_upd ht) _ _ l4, hlen, ?_⟩
          exact fin _ t .turn _ _ (b4.trans b5) (D4.same (same_upd ht)) upd_same trivial (b04.trans b5)
        · rw [decide_eq_false hr0]
          refine iteF ?_
          refine ⟨_, rfl, _, rfl, _, _, rfl, rfl, s, c + 1, rfl, D4, by omega, by omega, fun r1 H5 r10 r11 D5 b5 => ?_⟩
          refine ⟨_, rfl, _, rfl, _, rfl, _, _, rfl, rfl, ⟨by decide, by decide⟩, _, _, rfl, rfl, s, c / 3 + 1, rfl, D5, by omega, by omega, fun r2 H6 r20 r21 D6 b6 => ⟨_, _, rfl, rfl, by show 2 ≤ sizeLine; decide, fun l2 hl2 => ?_⟩⟩
          have u6 : Same H6 (upd H6 l2 (.lst [.int r1, .int (c - r2)])) := same_upd hl2
          have ns2 : l2 ≠ s := let ⟨_, e⟩ := D6.lst; (ne_of_none e hl2).symm
          refine ⟨_, rfl, s, 2, rfl, D6.same u6, by decide, by decide, fun r3 H7 r30 r31 D7 b7 => ?_⟩
          obtain ⟨nd, hnd, nd0, nd1⟩ : ∃ nd, atI [V.int r1, V.int (c - r2)] r3 = some (V.int nd) ∧ 0 ≤ nd ∧ nd ≤ c := by
            have : r3 = ((0 : Nat) : Int) ∨ r3 = ((1 : Nat) : Int) := by omega
            rcases this with q | q
            · exact ⟨r1, at_of q rfl, r10, by omega⟩
            · exact ⟨c - r2, at_of q rfl, by omega, by omega⟩
          refine ⟨l2, _, _, _, rfl, rfl, SqL.of (b7 _ _ ns2 upd_same), hnd, ?_⟩
          have b47 : But s H4 H7 := b5.trans (b6.trans ((But.of u6).trans b7))
          have l7 : H7 l = some (.lst ws) := b47 _ _ nsl.symm (b4 _ _ nsl.symm e3)
          refine ⟨_, rfl, .inl ⟨rfl, _, SqL.of l7⟩, by show 2 ≤ sizeLine; decide, fun l3 hl3 => ?_⟩
          have u7 : Same H7 (upd H7 l3 (.lst [.str "red", .str "blue"])) := same_upd hl3
          have ns3 : l3 ≠ s := let ⟨_, e⟩ := D7.lst; (ne_of_none e hl3).symm
          refine ⟨_, rfl, s, 2, rfl, D7.same u7, by decide, by decide, fun r4 H9 r40 r41 D9 b9 => ?_⟩
          obtain ⟨bb, hbb⟩ : ∃ bb, atI [V.str "red", V.str "blue"] r4 = some (V.str (roomS bb)) := by
            have : r4 = ((0 : Nat) : Int) ∨ r4 = ((1 : Nat) : Int) := by omega
            rcases this with q | q
            · exact ⟨true, at_of q rfl⟩
            · exact ⟨false, at_of q rfl⟩
          refine ⟨l3, _, _, _, rfl, rfl, SqL.of (b9 _ _ ns3 upd_same), hbb, _, rfl, by show 2 ≤ sizeLine; decide, fun t ht => ?_⟩
          have b49 : But s H4 (upd H9 t (.tup [.str (roomS bb), .int nd])) := b47.trans ((But.of u7).trans (b9.trans (But.of (same_upd ht))))
          refine ⟨l, ws, _, rfl, rfl, b49 _ _ nsl.symm (b4 _ _ nsl.symm e3), hlen, ?_⟩
          exact fin _ t (.meet bb nd) _ _ (b4.trans b49) (D9.same (same_upd ht)) upd_same ⟨nd0, nd1⟩ (b04.trans b49)
      · rw [decide_eq_false htu]
        refine iteF ?_
        have D4 := D3
        have b4 : But s H3 H3 := But.refl s H3
        have b04 := b3
        refine ⟨_, rfl, _, rfl, _, _, rfl, rfl, s, c + 1, rfl, D4, by omega, by omega, fun r1 H5 r10 r11 D5 b5 => ?_⟩
        refine ⟨_, rfl, _, rfl, _, rfl, _, _, rfl, rfl, ⟨by decide, by decide⟩, _, _, rfl, rfl, s, c / 3 + 1, rfl, D5, by omega, by omega, fun r2 H6 r20 r21 D6 b6 => ⟨_, _, rfl, rfl, by show 2 ≤ sizeLine; decide, fun l2 hl2 => ?_⟩⟩
        have u6 : Same H6 (upd H6 l2 (.lst [.int r1, .int (c - r2)])) := same_upd hl2
        have ns2 : l2 ≠ s := let ⟨_, e⟩ := D6.lst; (ne_of_none e hl2).symm
        refine ⟨_, rfl, s, 2, rfl, D6.same u6, by decide, by decide, fun r3 H7 r30 r31 D7 b7 => ?_⟩
        obtain ⟨nd, hnd, nd0, nd1⟩ : ∃ nd, atI [V.int r1, V.int (c - r2)] r3 = some (V.int nd) ∧ 0 ≤ nd ∧ nd ≤ c := by
          have : r3 = ((0 : Nat) : Int) ∨ r3 = ((1 : Nat) : Int) := by omega
          rcases this with q | q
          · exact ⟨r1, at_of q rfl, r10, by omega⟩
          · exact ⟨c - r2, at_of q rfl, by omega, by omega⟩
        refine ⟨l2, _, _, _, rfl, rfl, SqL.of (b7 _ _ ns2 upd_same), hnd, ?_⟩
        have b47 : But s H3 H7 := b5.trans (b6.trans ((But.of u6).trans b7))
        have l7 : H7 l = some (.lst ws) := b47 _ _ nsl.symm (b4 _ _ nsl.symm e3)
        refine ⟨_, rfl, .inl ⟨rfl, _, SqL.of l7⟩, by show 2 ≤ sizeLine; decide, fun l3 hl3 => ?_⟩
        have u7 : Same H7 (upd H7 l3 (.lst [.str "red", .str "blue"])) := same_upd hl3
        have ns3 : l3 ≠ s := let ⟨_, e⟩ := D7.lst; (ne_of_none e hl3).symm
        refine ⟨_, rfl, s, 2, rfl, D7.same u7, by decide, by decide, fun r4 H9 r40 r41 D9 b9 => ?_⟩
        obtain ⟨bb, hbb⟩ : ∃ bb, atI [V.str "red", V.str "blue"] r4 = some (V.str (roomS bb)) := by
          have : r4 = ((0 : Nat) : Int) ∨ r4 = ((1 : Nat) : Int) := by omega
          rcases this with q | q
          · exact ⟨true, at_of q rfl⟩
          · exact ⟨false, at_of q rfl⟩
        refine ⟨l3, _, _, _, rfl, rfl, SqL.of (b9 _ _ ns3 upd_same), hbb, _, rfl, by show 2 ≤ sizeLine; decide, fun t ht => ?_⟩
        have b49 : But s H3 (upd H9 t (.tup [.str (roomS bb), .int nd])) := b47.trans ((But.of u7).trans (b9.trans (But.of (same_upd ht))))
        refine ⟨l, ws, _, rfl, rfl, b49 _ _ nsl.symm (b4 _ _ nsl.symm e3), hlen, ?_⟩
        exact fin _ t (.meet bb nd) _ _ (b4.trans b49) (D9.same (same_upd ht)) upd_same ⟨nd0, nd1⟩ (b04.trans b49)
    · rintro σ H3 ⟨x, y, ws, ss, rfl, e3, s3, n3, o3, D3, b3⟩
      exact ⟨_, rfl, k l ws ss H3 hl0 e3 s3 (by omega) o3 D3 b3⟩
theorem scLPlan : FnScope ["_law_steps", "_law_result", "_law_step"] ["_law_steps"] (defScope sLPlan) := ⟨rfl, rfl, rfl, by decide +kernel, rfl, by decide +kernel, by decide +kernel⟩
theorem ok_lplan {f fI fJ : Addr} {fd : FuncData} (F : Fun K "_law_plan" "_law_plan" sLPlan f fd) (T : Txt K mg C TU pS gS mc) (M : Mk K C fI) (GI : FnR P w K mg base CX0 3 fI (spInit C)) (MJ : Meth K C "joined" fJ) (GJ : FnR P w K mg base CX0 5 fJ (spJoined C)) : FnOk P w K mg base CX0 6 f fd ["_law_steps"] (spLPlan C) := by
  refine F.ok scLPlan (fun vs H Q E h => ?_) (fun cdv A outer s H vs Q E hr h => ?_)
  · obtain ⟨l, ws, ss, rfl, _⟩ := h
    rfl
  · obtain ⟨l, ws, ss, rfl, hl, hs, hn, ho, k⟩ := h
    have hr4 : Room 4 _ := hr.mono (by decide)
    refine ⟨_, pss_cons (ps_set (i := 1) scLPlan.nd rfl (.inl rfl) (pe_makeR0 M GI hr4 rfl T.gP pass0))
      (pss_cons (ps_for PassesOwn.never rfl (pi_list (pv 0)) (pg_name (i := 2) scLPlan.nd rfl (.inl rfl))
        (pss_one (ps_set (i := 1) scLPlan.nd rfl (.inl rfl) (pe_methR (pv 1) T.cl MJ GJ hr pass0 (pa_cons (StX.pe_makeR M GI hr4 rfl T.gP pass0 (pa_cons (pv 2) pa_nil)) pa_nil)))))
      (pss_one (ps_ret (pv 1)))), ?_⟩
    intro x dx hx hdx hne
    have made : ∀ {H : Hp} {x dx : Addr}, H x = none → H dx = none → Same H (upd (upd H dx (.own x)) x (.ins C dx [])) := fun hx hdx b o e => by
      rw [upd_ne (ne_of_none e hx), upd_ne (ne_of_none e hdx)]
      exact e
    refine ⟨x, dx, [], [], rfl, upd_same, .nil, by decide, by simp, fun H1 tp b1 b2 b3 => ⟨rfl, ?_⟩⟩
    have s1 : Same H H1 := fun b o e => b1 b o (ne_of_none e hx) (made hx hdx b o e)
    refine ⟨_, rfl, l, rfl, ⟨_, SqL.of (s1 _ _ hl)⟩, for_list (K := K) (a := l) (xs := ws) (fun i σ H' => ∃ (p : Addr) (v : Option V), σ = [some (.ref l), some (.ref p), v] ∧ Same H H' ∧ PlanAt C H' p (ss.take i))
      ⟨x, none, rfl, s1, dx, tp, [], b2, b3, .nil⟩ (fun i σ H' _ ⟨_, _, _, s2, _⟩ => SqL.of (s2 _ _ hl)) ?_ ?_⟩
    · rintro i y σ H' hi ⟨p, v, rfl, s2, pl⟩
      obtain ⟨st, hst, t, rfl, ht⟩ := hs.get hi
      have okst := ho st (List.mem_of_getElem? hst)
      obtain ⟨dp, tq, zs, e1, e2, e3⟩ := id pl
      refine ⟨_, rfl, p, dp, _, rfl, e1, lk_no (by decide +kernel), _, rfl, fun q dq hq hdq hne => ?_⟩
      have s3 : Same H' (upd (upd H' dq (.own q)) q (.ins C dq [])) := made hq hdq
      have ht2 := s3 _ _ (s2 _ _ ht)
      refine ⟨q, dq, [.ref t], [st], rfl, upd_same,   .cons ⟨t, rfl, ht2⟩ .nil, by show 1 ≤ 60; decide, fun z hz => (List.mem_singleton.mp hz) ▸ okst, fun H2 tz b4 b5 b6 => ⟨rfl, ?_⟩⟩
      have s4 : Same H' H2 := fun b o e => b4 b o (ne_of_none e hq) (s3 b o e)
      have le : i < ss.length := (List.getElem?_eq_some_iff.mp hst).1
      have et : ss.take i ++ [st] = ss.take (i + 1) := (take_more hst).symm
      refine ⟨p, ss.take i, q, [st], rfl, pl.same s4, ⟨dq, tz, [.ref t], b5, b6, .cons ⟨t, rfl, s4 _ _ (s2 _ _ ht)⟩ .nil⟩, ?_, ?_, fun r H3 s5 pr => ?_⟩
      · rw [et, List.length_take]
        omega
      · rw [et]
        exact fun z hz => ho z (List.mem_of_mem_take hz)
      · rw [et] at pr
        exact ⟨r, _, rfl, (s2.trans s4).trans s5, pr⟩
    · rintro σ H' ⟨p, v, rfl, s2, pl⟩
      rw [hs.length, List.take_length] at pl
      exact ⟨_, rfl, k p H' s2 pl⟩
end
end Cc

namespace Cc
open PySem PySem.Spec PyProof.Rows L2
abbrev sAStep : Stmt := top 16
abbrev sASteps : Stmt := top 17
def spAStep : Sp := fun vs H Q _ => ∃ (v : V) (s : Stp) (c r : Int), vs = [v, .int c, .int r] ∧ StepAt H v s ∧ ∀ p H', Same H H' → H' p = some (.tup [.int (stepF c s r).1, .int (stepF c s r).2]) → Q (.ref p) H'
def spASteps (K : PySem.W.Frag) : Sp := fun vs H Q _ => ∃ (t : Addr) (ws : List V) (ss : List Stp) (c r : Int), vs = [.ref t, .int c, .int r] ∧ SqT K H t ws ∧ (∀ H', Same H H' → SqT K H' t ws) ∧ Steps H ws ss ∧ ∀ p H', Same H H' → H' p = some (.tup [.int (stepsF c ss (r, 0)).1, .int (stepsF c ss (r, 0)).2]) → Q (.ref p) H'
section
variable {P : Program} {w : World} {K : PySem.W.Frag} {mg : Str → Option Value} {base : Heap} {C TU pS gS : Addr} {mc : Value}
theorem scAStep : FnScope ["step", "chairs", "red", "room", "need", "missing"] ["step", "chairs", "red"] (defScope sAStep) := ⟨rfl, rfl, rfl, by decide +kernel, rfl, by decide +kernel, by decide +kernel⟩
theorem ok_astep {f : Addr} {fd : FuncData} (F : Fun K "after_step" "after_step" sAStep f fd) (T : Txt K mg C TU pS gS mc) : FnOk P w K mg base CX0 1 f fd ["step", "chairs", "red"] spAStep := by
  refine F.ok scAStep (fun vs H Q E h => ?_) (fun cdv A outer s H vs Q E hr h => ?_)
  · obtain ⟨v, s, c, r, rfl, _⟩ := h
    rfl
  · obtain ⟨v, st, c, r, rfl, ⟨t, rfl, ht⟩, k⟩ := h
    refine ⟨_, pss_cons (ps_if (pt_cmpR (op_eqD hr.units) (pv 0) (pe_glob (v := .ref TU) rfl T.gT rfl) (nomark _)) (pss_one (ps_ret (pe_tup (pa_cons (pe_op op_sub (pv 1) (pv 2)) (pa_cons pe_int pa_nil))))) pss_nil)
      (pss_cons (ps_asg (pv 0) (pg_tup rfl (pgs_cons (pg_name (i := 3) scAStep.nd rfl (.inl rfl)) (pgs_cons (pg_name (i := 4) scAStep.nd rfl (.inl rfl)) pgs_nil))))
      (pss_cons (ps_if (pt_cmpR op_eq (pv 3) pe_str (nomark _))
        (pss_cons (ps_set (i := 5) scAStep.nd rfl (.inl rfl) (pe_callB (call_max2 rfl) (by rfl) T.b.max (by decide +kernel) (pa_cons pe_int (pa_cons (pe_op op_sub (pv 4) (pv 2)) pa_nil))))
        (pss_one (ps_ret (pe_tup (pa_cons (pe_op op_add (pv 2) (pv 5)) (pa_cons (pv 5) pa_nil)))))) pss_nil)
      (pss_cons (ps_set (i := 5) scAStep.nd rfl (.inl rfl) (pe_callB (call_max2 rfl) (by rfl) T.b.max (by decide +kernel) (pa_cons pe_int (pa_cons (pe_op op_sub (pv 4) (pe_op op_sub (pv 1) (pv 2))) pa_nil))))
      (pss_one (ps_ret (pe_tup (pa_cons (pe_op op_sub (pv 2) (pv 5)) (pa_cons (pv 5) pa_nil)))))))), ?_⟩
    cases st with
    | turn =>
      refine ⟨_, rfl, .tuple [.str "turn"], .tuple [.str "turn"], .tup (SqT.of ht) (.cons (.str _) .nil), .tup (T.tT _) (.cons (.str _) .nil), by decide +kernel, by decide +kernel, _, rfl, ?_⟩
      rw [eqv_turn]
      refine iteT ⟨_, rfl, _, rfl, _, _, rfl, rfl, by show 2 ≤ sizeLine; decide, fun p hp => ?_⟩
      exact k p _ (same_upd hp) upd_same
    | meet bb n =>
      refine ⟨_, rfl, .tuple [.str (roomS bb), .int n], .tuple [.str "turn"], .tup (SqT.of ht) (.cons (.str _) (.cons (.int _) .nil)), .tup (T.tT _) (.cons (.str _) .nil), shaped_meet bb n, by decide +kernel, _, rfl, ?_⟩
      rw [eqv_meet]
      refine iteF ⟨_, rfl, t, _, rfl, SqT.of ht, rfl, _, _, rfl, _, _, rfl, rfl, ?_⟩
      refine ⟨_, rfl, rfl, _, rfl, ?_⟩
      rw [room_eq]
      cases bb with
      | true =>
        refine iteT ⟨_, rfl, _, rfl, _, _, rfl, rfl, _, _, rfl, ?_⟩
        refine ⟨_, rfl, _, rfl, _, _, rfl, rfl, _, rfl, by show 2 ≤ sizeLine; decide, fun p hp => ?_⟩
        exact k p _ (same_upd hp) upd_same
      | false =>
        refine iteF ⟨_, rfl, _, rfl, _, rfl, _, _, rfl, rfl, _, _, rfl, rfl, _, _, rfl, ?_⟩
        refine ⟨_, rfl, _, rfl, _, _, rfl, rfl, _, rfl, by show 2 ≤ sizeLine; decide, fun p hp => ?_⟩
        exact k p _ (same_upd hp) upd_same
theorem scASteps : FnScope ["steps", "chairs", "red", "total", "step", "carried"] ["steps", "chairs", "red"] (defScope sASteps) := ⟨rfl, rfl, rfl, by decide +kernel, rfl, by decide +kernel, by decide +kernel⟩
theorem ok_asteps {f fA : Addr} {fd : FuncData} (F : Fun K "after_steps" "after_steps" sASteps f fd) (D : Dn P w K mg base 1 "after_step" fA spAStep) : FnOk P w K mg base CX0 2 f fd ["steps", "chairs", "red"] (spASteps K) := by
  refine F.ok scASteps (fun vs H Q E h => ?_) (fun cdv A outer s H vs Q E hr h => ?_)
  · obtain ⟨t, ws, ss, c, r, rfl, _⟩ := h
    rfl
  · obtain ⟨t, ws, ss, c, r, rfl, hT, hT2, hs, k⟩ := h
    refine ⟨_, pss_cons (ps_set (i := 3) scASteps.nd rfl (.inl rfl) pe_int)
      (pss_cons (ps_for PassesOwn.never rfl (pi_tup (pv 0)) (pg_name (i := 4) scASteps.nd rfl (.inl rfl))
        (pss_cons (ps_asg (pe_callR D.ok hr rfl D.at_ D.kp pass0 (pa_cons (pv 4) (pa_cons (pv 1) (pa_cons (pv 2) pa_nil)))) (pg_tup rfl (pgs_cons (pg_name (i := 2) scASteps.nd rfl (.inl rfl)) (pgs_cons (pg_name (i := 5) scASteps.nd rfl (.inl rfl)) pgs_nil))))
        (pss_one (ps_aug (i := 3) scASteps.nd rfl (.inl rfl) (pv 5) ip_add))))
      (pss_one (ps_ret (pe_tup (pa_cons (pv 2) (pa_cons (pv 3) pa_nil)))))), ?_⟩
    refine ⟨_, rfl, t, rfl, ⟨_, hT⟩, for_tup (K := K) (a := t) (xs := ws) (fun i σ H' => ∃ (x y : Option V), σ = [some (.ref t), some (.int c), some (.int (stepsF c (ss.take i) (r, 0)).1), some (.int (stepsF c (ss.take i) (r, 0)).2), x, y] ∧ Same H H')
      ⟨none, none, rfl, Same.refl H⟩ (fun i σ H' _ ⟨_, _, _, s1⟩ => hT2 _ s1) ?_ ?_⟩
    · rintro i v σ H' hi ⟨x, y, rfl, s1⟩
      obtain ⟨st, hst, q, rfl, hq⟩ := hs.get hi
      refine ⟨_, rfl, _, rfl, _, rfl, _, st, c, _, rfl, ⟨q, rfl, s1 _ _ hq⟩, fun p H2 s2 e2 => ?_⟩
      refine ⟨p, _, rfl, SqT.of e2, rfl, _, _, rfl, _, _, rfl, rfl, ?_⟩
      refine ⟨_, rfl, _, rfl, _, _, rfl, rfl, ?_⟩
      refine ⟨some (.ref q), some (.int (stepF c st (stepsF c (ss.take i) (r, 0)).1).2), ?_, s1.trans s2⟩
      rw [take_more hst, stepsF_one]
      rfl
    · rintro σ H' ⟨x, y, rfl, s1⟩
      rw [hs.length, List.take_length]
      refine ⟨_, rfl, _, rfl, by show 2 ≤ sizeLine; decide, fun p hp => ?_⟩
      exact k p _ (s1.trans (same_upd hp)) upd_same
end
end Cc

/-! Nobody carries less: the least price of each place behind the steps. -/
namespace Cc
open PySem PySem.Spec PyProof.Rows L2
def ab (i : Int) : Int := if i < 0 then -i else i
/-- the prices of the places 0, 1, .. when T are carried and pos is the lazy place -/
def priceF (n : Nat) (T pos : Int) : List Int := (List.range n).map fun (g : Nat) => T + ab ((g : Int) - pos)
/-- the place (chairs in the room that was red at first), by the side -/
def placeF (c side r : Int) : Int := if side = 1 then r else c - r
/-- the places that a meeting allows -/
def goodF (c : Int) (first : Bool) (need : Int) (n : Nat) : List Nat := (List.range n).filter fun (g : Nat) => decide (need ≤ if first = true then (0 + (g : Int)) else c - (0 + (g : Int)))
theorem mem_goodF {c : Int} {first : Bool} {need : Int} {n g : Nat} : g ∈ goodF c first need n ↔ g < n ∧ need ≤ (if first = true then (g : Int) else c - g) := by
  unfold goodF
  rw [List.mem_filter, List.mem_range]
  simp
/-- a meeting moves the lazy place to the nearest that it allows -/
theorem place_meet {c side r n : Int} {b : Bool} (hs : side = 1 ∨ side = -1) (h0 : 0 ≤ r) (h1 : r ≤ c) (n0 : 0 ≤ n) (n1 : n ≤ c) (first : Bool) (hf : first = (b == decide (side = 1))) :
    placeF c side (stepF c (.meet b n) r).1 = (if first = true then (if placeF c side r < n then n else placeF c side r) else (if c - n < placeF c side r then c - n else placeF c side r)) ∧
    (stepF c (.meet b n) r).2 = ab (placeF c side (stepF c (.meet b n) r).1 - placeF c side r) := by
  subst hf
  rcases hs with rfl | rfl <;> cases b <;> simp [placeF, stepF, mx, ab] <;> omega
theorem place_in {c side r : Int} (h0 : 0 ≤ r) (h1 : r ≤ c) : 0 ≤ placeF c side r ∧ placeF c side r ≤ c := by
  unfold placeF
  split <;> omega
/-- the new price of a place -/
theorem price_meet {c side r n T : Int} {b : Bool} (hs : side = 1 ∨ side = -1) (h0 : 0 ≤ r) (h1 : r ≤ c) (n0 : 0 ≤ n) (n1 : n ≤ c) (first : Bool) (hf : first = (b == decide (side = 1))) (g : Int) :
    (∃ p : Nat, p ∈ goodF c first n (c + 1).toNat ∧ (T + ab ((p : Int) - placeF c side r)) + ab ((p : Int) - g) = (T + (stepF c (.meet b n) r).2) + ab (g - placeF c side (stepF c (.meet b n) r).1)) ∧
    ∀ p : Nat, p ∈ goodF c first n (c + 1).toNat → (T + (stepF c (.meet b n) r).2) + ab (g - placeF c side (stepF c (.meet b n) r).1) ≤ (T + ab ((p : Int) - placeF c side r)) + ab ((p : Int) - g) := by
  obtain ⟨e1, e2⟩ := place_meet hs h0 h1 n0 n1 first hf
  obtain ⟨p0, p1⟩ := place_in (side := side) h0 h1
  rw [e2]
  generalize placeF c side r = pos at *
  generalize placeF c side (stepF c (.meet b n) r).1 = pos' at *
  have hp0 : 0 ≤ pos' := by
    subst e1
    split <;> split <;> omega
  refine ⟨⟨pos'.toNat, mem_goodF.mpr ⟨?_, ?_⟩, ?_⟩, fun p hp => ?_⟩
  · subst e1
    split <;> split <;> omega
  · have q : ((pos'.toNat : Nat) : Int) = pos' := by omega
    rw [q]
    subst e1
    cases first <;> simp <;> split <;> omega
  · have q : ((pos'.toNat : Nat) : Int) = pos' := by omega
    rw [q]
    unfold ab
    split <;> split <;> split <;> omega
  · obtain ⟨hp1, hp2⟩ := mem_goodF.mp hp
    unfold ab
    cases first
    · simp at e1 hp2
      subst e1
      split <;> split <;> split <;> split <;> omega
    · simp at e1 hp2
      subst e1
      split <;> split <;> split <;> split <;> omega
theorem least_is {ns : List Int} {m v : Int} (h1 : m ∈ ns) (h2 : ∀ x ∈ ns, m ≤ x) (h3 : v ∈ ns) (h4 : ∀ x ∈ ns, v ≤ x) : m = v := Int.le_antisymm (h2 v h3) (h4 m h1)
theorem priceF_get {n : Nat} {T pos : Int} {p : Nat} (h : p < n) : (priceF n T pos)[p]? = some (T + ab ((p : Int) - pos)) := by
  unfold priceF
  rw [List.getElem?_map, List.getElem?_range h]
  rfl
end Cc
namespace Cc
open PySem PySem.Spec PyProof.Rows L2
theorem ifT {c : Bool} {A B : Prop} (hc : c = true) (h : A) : if c = true then A else B := by
  rw [if_pos hc]
  exact h
theorem ifF {c : Bool} {A B : Prop} (hc : c = false) (h : B) : if c = true then A else B := by
  rw [hc, if_neg Bool.false_ne_true]
  exact h
theorem same_new {H H' : Hp} {D : Addr} {o : HO} (h : H D = none) (s : Same H H') : Same H (upd H' D o) := fun b u e => by
  rw [upd_ne (ne_of_none e h)]
  exact s b u e
theorem upd_lst {H : Hp} {D : Addr} {xs ys : List V} (h : xs = ys) : upd H D (.lst xs) D = some (.lst ys) := by
  rw [h]
  exact upd_same
theorem priceF_succ (n : Nat) (T pos : Int) : (priceF (n + 1) T pos).map V.int = (priceF n T pos).map V.int ++ [V.int (T + ab ((n : Int) - pos))] := by
  unfold priceF
  rw [List.range_succ, List.map_append, List.map_append]
  rfl
theorem priceF_len (n : Nat) (T pos : Int) : (priceF n T pos).length = n := by
  simp [priceF]
def goodV (c : Int) (first : Bool) (need : Int) (n : Nat) : List V := (goodF c first need n).map fun (p : Nat) => V.int (0 + (p : Int))
theorem goodV_succ (c : Int) (first : Bool) (need : Int) (n : Nat) (h : (decide (need ≤ if first = true then (0 + (n : Int)) else c - (0 + (n : Int)))) = true) : goodV c first need (n + 1) = goodV c first need n ++ [V.int (0 + (n : Int))] := by
  unfold goodV goodF
  rw [List.range_succ, List.filter_append, List.map_append]
  simp only [List.filter_cons, h, if_true, List.filter_nil, List.map_cons, List.map_nil]
theorem goodV_skip (c : Int) (first : Bool) (need : Int) (n : Nat) (h : (decide (need ≤ if first = true then (0 + (n : Int)) else c - (0 + (n : Int)))) = false) : goodV c first need (n + 1) = goodV c first need n := by
  unfold goodV goodF
  rw [List.range_succ, List.filter_append, List.map_append]
  simp only [List.filter_cons, h, Bool.false_eq_true, if_false, List.filter_nil, List.map_nil, List.append_nil]
theorem goodV_len (c : Int) (first : Bool) (need : Int) (n : Nat) : (goodV c first need n).length ≤ n := by
  unfold goodV goodF
  rw [List.length_map]
  exact Nat.le_trans (List.length_filter_le _ _) (by rw [List.length_range]; exact Nat.le_refl n)
theorem room_turn (b : Bool) : decide (V.str (roomS b) = V.str "turn") = false := by
  cases b <;> decide +kernel
theorem first_eq (b : Bool) (side : Int) : decide (V.bl (decide (V.str (roomS b) = V.str "red")) = V.bl (decide (V.int side = V.int 1))) = (b == decide (side = 1)) := by
  rw [room_eq]
  have e : decide (V.int side = V.int 1) = decide (side = 1) := by
    by_cases h : side = 1
    · subst h; simp
    · rw [decide_eq_false h, decide_eq_false fun z => h (by injection z)]
  rw [e]
  cases b <;> cases decide (side = 1) <;> decide
theorem small_line {i n : Nat} (h : i < n) (hn : n ≤ 2000) : i < sizeLine := by
  rw [sizeLine_eq]
  omega
end Cc

/-! summary: what a plan does to all starts. -/
namespace Cc
open PySem PySem.Spec PyProof.Rows L2
structure Sm where
  low : Int
  high : Int
  extra : Int
  goal : Option Int
  turned : Bool
def goalV : Option Int → V
  | none => .non
  | some g => .int g
/-- how many chairs the room that was red at first may have -/
def allowF (c : Int) (t b : Bool) (n : Int) : Int × Int := if b == t then (0, c - n) else (n, c)
def nearF (g a b : Int) : Int := if b < (if a > g then a else g) then b else (if a > g then a else g)
/-- a meeting behind steps that only keep to a range -/
def narrowF (lo hi a b : Int) : Int × Int × Int × Option Int :=
  if a > hi then (hi, hi, a - hi, some a) else if b < lo then (lo, lo, lo - b, some b) else (mx lo a, (if b < hi then b else hi), 0, none)
def smStep (c : Int) (m : Sm) : Stp → Sm
  | .turn => { m with turned := !m.turned }
  | .meet b n => match m.goal with
    | none => let z := narrowF m.low m.high (allowF c m.turned b n).1 (allowF c m.turned b n).2; { m with low := z.1, high := z.2.1, extra := z.2.2.1, goal := z.2.2.2 }
    | some g => { m with extra := m.extra + ab (nearF g (allowF c m.turned b n).1 (allowF c m.turned b n).2 - g), goal := some (nearF g (allowF c m.turned b n).1 (allowF c m.turned b n).2) }
def smSteps (c : Int) (ss : List Stp) : Sm := ss.foldl (smStep c) ⟨0, c, 0, none, false⟩
theorem smSteps_more (c : Int) (ss : List Stp) (s : Stp) : smSteps c (ss ++ [s]) = smStep c (smSteps c ss) s := by
  unfold smSteps
  rw [List.foldl_append]
  rfl
def smEnd (m : Sm) : Sm := if m.low = m.high ∧ m.goal = none then { m with goal := some m.low } else m
def sideF (t : Bool) : Int := if t then -1 else 1
/-- what a summary says of a start, of the carried and the place -/
structure SmOk (c : Int) (m : Sm) : Prop where
  l0 : 0 ≤ m.low
  lh : m.low ≤ m.high
  h1 : m.high ≤ c
  g : ∀ z, m.goal = some z → 0 ≤ z ∧ z ≤ c
  e : m.goal = none → m.extra = 0
def distF (lo hi x : Int) : Int := if x < lo then lo - x else if hi < x then x - hi else 0
def clampF (lo hi x : Int) : Int := if x < lo then lo else if hi < x then hi else x
def SmSays (m : Sm) (x total place : Int) : Prop := total = distF m.low m.high x + m.extra ∧ place = (match m.goal with | none => clampF m.low m.high x | some z => z)
theorem says_start (c x : Int) (h0 : 0 ≤ x) (h1 : x ≤ c) : SmOk c ⟨0, c, 0, none, false⟩ ∧ SmSays ⟨0, c, 0, none, false⟩ x 0 (placeF c 1 x) := by
  refine ⟨⟨Int.le_refl 0, by show 0 ≤ c; omega, Int.le_refl c, (fun z h => nomatch h), fun _ => rfl⟩, ?_, ?_⟩
  · show 0 = distF 0 c x + 0
    unfold distF
    split
    · omega
    · split <;> omega
  · show placeF c 1 x = clampF 0 c x
    unfold placeF clampF
    simp
    split
    · omega
    · split <;> omega
theorem smOk_step {c : Int} {m : Sm} {s : Stp} (h : SmOk c m) (hs : s.ok c) : SmOk c (smStep c m s) := by
  obtain ⟨low, high, extra, goal, turned⟩ := m
  obtain ⟨l0, lh, h1, hg, he⟩ := h
  simp only at l0 lh h1 hg he
  cases s with
  | turn => exact ⟨l0, lh, h1, hg, he⟩
  | meet b n =>
    obtain ⟨n0, n1⟩ := hs
    cases goal with
    | none =>
      simp only [smStep, narrowF, allowF, mx]
      cases b <;> cases turned <;> simp <;> (split <;> first
        | (constructor <;> simp <;> omega)
        | (split <;> (constructor <;> simp <;> omega)))
    | some z =>
      have hz := hg z rfl
      simp only [smStep, nearF, allowF]
      refine ⟨l0, lh, h1, fun y hy => ?_, fun q => nomatch q⟩
      simp only [Option.some.injEq] at hy
      subst hy
      cases b <;> cases turned <;> simp <;> split <;> split <;> omega
theorem side_of (t : Bool) : sideF t = 1 ∨ sideF t = -1 := by
  cases t <;> simp [sideF]
theorem narrow_says {lo hi a b x : Int} (h : lo ≤ hi) (hab : a ≤ b) : distF lo hi x + ab (clampF a b (clampF lo hi x) - clampF lo hi x) = distF (narrowF lo hi a b).1 (narrowF lo hi a b).2.1 x + (narrowF lo hi a b).2.2.1 ∧
    clampF a b (clampF lo hi x) = (match (narrowF lo hi a b).2.2.2 with | none => clampF (narrowF lo hi a b).1 (narrowF lo hi a b).2.1 x | some z => z) := by
  unfold narrowF
  by_cases q1 : a > hi
  · rw [if_pos q1]
    simp only [distF, clampF, ab]
    omega
  · rw [if_neg q1]
    by_cases q2 : b < lo
    · rw [if_pos q2]
      simp only [distF, clampF, ab]
      omega
    · rw [if_neg q2]
      simp only [distF, clampF, ab, mx]
      omega
theorem near_is {g a b : Int} (hab : a ≤ b) : nearF g a b = clampF a b g := by
  unfold nearF clampF
  omega
/-- a meeting moves the place to the nearest that it allows -/
theorem place_allow {c r n : Int} {b t : Bool} (r0 : 0 ≤ r) (r1 : r ≤ c) (n0 : 0 ≤ n) (n1 : n ≤ c) :
    placeF c (sideF t) (stepF c (.meet b n) r).1 = clampF (allowF c t b n).1 (allowF c t b n).2 (placeF c (sideF t) r) ∧ (stepF c (.meet b n) r).2 = ab (placeF c (sideF t) (stepF c (.meet b n) r).1 - placeF c (sideF t) r) ∧ (allowF c t b n).1 ≤ (allowF c t b n).2 := by
  cases b <;> cases t <;> simp [placeF, sideF, stepF, clampF, allowF, mx, ab] <;> omega
theorem says_step {c : Int} {m : Sm} {s : Stp} {x r total : Int} (ok : SmOk c m) (hs : s.ok c) (r0 : 0 ≤ r) (r1 : r ≤ c) (h : SmSays m x total (placeF c (sideF m.turned) r)) :
    SmSays (smStep c m s) x (total + (stepF c s r).2) (placeF c (sideF (smStep c m s).turned) (stepF c s r).1) := by
  obtain ⟨low, high, extra, goal, turned⟩ := m
  obtain ⟨l0, lh, hc1, hg, he⟩ := ok
  simp only at l0 lh hc1 hg he
  obtain ⟨e1, e2⟩ := h
  simp only at e1 e2
  cases s with
  | turn =>
    refine ⟨?_, ?_⟩
    · show total + 0 = distF low high x + extra
      omega
    · refine Eq.trans ?_ e2
      show placeF c (sideF (!turned)) (c - r) = placeF c (sideF turned) r
      cases turned <;> simp [placeF, sideF] <;> omega
  | meet b n =>
    obtain ⟨n0, n1⟩ := hs
    obtain ⟨f1, f2, f3⟩ := place_allow (c := c) (b := b) (t := turned) r0 r1 n0 n1
    cases goal with
    | none =>
      have he0 := he rfl
      subst he0
      simp only at e2
      obtain ⟨g1, g2⟩ := narrow_says (lo := low) (hi := high) (a := (allowF c turned b n).1) (b := (allowF c turned b n).2) (x := x) lh f3
      refine ⟨?_, ?_⟩
      · refine Eq.trans ?_ g1
        rw [f2, f1, e2, e1, Int.add_zero]
      · refine Eq.trans ?_ g2
        show placeF c (sideF turned) (stepF c (.meet b n) r).1 = _
        rw [f1, e2]
    | some z =>
      simp only at e2
      refine ⟨?_, ?_⟩
      · show total + (stepF c (.meet b n) r).2 = distF low high x + (extra + ab (nearF z (allowF c turned b n).1 (allowF c turned b n).2 - z))
        rw [near_is f3, f2, f1, e2, e1, Int.add_assoc]
      · show placeF c (sideF turned) (stepF c (.meet b n) r).1 = nearF z (allowF c turned b n).1 (allowF c turned b n).2
        rw [near_is f3, f1, e2]
theorem snoc_ind {α : Type} {M : List α → Prop} (h0 : M []) (h1 : ∀ l a, M l → M (l ++ [a])) (l : List α) : M l := by
  have q : ∀ k : List α, M k.reverse := fun k => by
    induction k with
    | nil => exact h0
    | cons a k ih =>
      rw [List.reverse_cons]
      exact h1 _ a ih
  have z := q l.reverse
  rw [List.reverse_reverse] at z
  exact z
/-- behind all steps -/
theorem smSteps_says {c x : Int} (x0 : 0 ≤ x) (x1 : x ≤ c) (ss : List Stp) : (∀ s ∈ ss, s.ok c) → SmOk c (smSteps c ss) ∧ SmSays (smSteps c ss) x (stepsF c ss (x, 0)).2 (placeF c (sideF (smSteps c ss).turned) (stepsF c ss (x, 0)).1) := by
  refine snoc_ind (M := fun ss => (∀ s ∈ ss, s.ok c) → SmOk c (smSteps c ss) ∧ SmSays (smSteps c ss) x (stepsF c ss (x, 0)).2 (placeF c (sideF (smSteps c ss).turned) (stepsF c ss (x, 0)).1)) (fun _ => says_start c x x0 x1) (fun us s ih hs => ?_) ss
  have hd : ∀ s ∈ us, s.ok c := fun z h => hs z (List.mem_append_left _ h)
  obtain ⟨ok, sy⟩ := ih hd
  obtain ⟨r0, r1, _⟩ := stepsF_in (c := c) (ss := us) (r := x) (t := 0) hd x0 x1 (Int.le_refl 0)
  have hg := hs s (List.mem_append_right _ List.mem_cons_self)
  rw [smSteps_more, stepsF_one]
  exact ⟨smOk_step ok hg, says_step ok hg r0 r1 sy⟩
theorem smEnd_says {c : Int} {m : Sm} {x total place : Int} (ok : SmOk c m) (h : SmSays m x total place) : SmOk c (smEnd m) ∧ SmSays (smEnd m) x total place ∧ ((smEnd m).low = (smEnd m).high → (smEnd m).goal ≠ none) ∧ (smEnd m).turned = m.turned := by
  obtain ⟨low, high, extra, goal, turned⟩ := m
  obtain ⟨l0, lh, hc1, hg, he⟩ := ok
  simp only at l0 lh hc1 hg he
  obtain ⟨e1, e2⟩ := h
  simp only at e1 e2
  unfold smEnd
  by_cases q : low = high ∧ goal = none
  · simp only [q, and_self, if_true]
    obtain ⟨q1, q2⟩ := q
    subst q1 q2
    simp only at e2
    refine ⟨⟨l0, Int.le_refl _, hc1, fun z hz => ?_, fun h => nomatch h⟩, ⟨e1, ?_⟩, (fun _ h => nomatch h), by first | rfl | trivial⟩
    · cases hz
      exact ⟨l0, hc1⟩
    · rw [e2]
      show clampF low low x = low
      unfold clampF
      omega
  · simp only [q, if_false]
    exact ⟨⟨l0, lh, hc1, hg, he⟩, ⟨e1, e2⟩, fun h1 h2 => q ⟨h1, h2⟩, by first | rfl | trivial⟩
/-- the number of turns -/
def turnsF (ss : List Stp) : Nat := (ss.filter fun s => match s with | .turn => true | .meet _ _ => false).length
theorem turned_is (c : Int) (ss : List Stp) : (smSteps c ss).turned = decide (turnsF ss % 2 = 1) := by
  refine snoc_ind (M := fun ss => (smSteps c ss).turned = decide (turnsF ss % 2 = 1)) rfl (fun us s ih => ?_) ss
  rw [smSteps_more]
  have ef : turnsF (us ++ [s]) = turnsF us + (match s with | .turn => 1 | .meet _ _ => 0) := by
    unfold turnsF
    rw [List.filter_append, List.length_append]
    cases s <;> rfl
  rw [ef]
  cases s with
  | turn =>
    show (!(smSteps c us).turned) = _
    rw [ih]
    by_cases q : turnsF us % 2 = 1
    · rw [decide_eq_true q, decide_eq_false (by simp only; omega)]
      rfl
    · rw [decide_eq_false q, decide_eq_true (by simp only; omega)]
      rfl
  | meet b z =>
    have et : (smStep c (smSteps c us) (.meet b z)).turned = (smSteps c us).turned := by
      unfold smStep
      cases (smSteps c us).goal <;> rfl
    rw [et, ih]
    rfl
end Cc

namespace Cc
open PySem PySem.Spec PyProof.Rows L2
abbrev sEffect : Stmt := top 20
abbrev sAllow : Stmt := top 21
abbrev sNarrow : Stmt := top 22
abbrev sNear : Stmt := top 23
def smV (m : Sm) : List V := [.int m.low, .int m.high, .int m.extra, goalV m.goal, .bl m.turned]
def spAllow : Sp := fun vs H Q _ => ∃ (v : V) (b t : Bool) (c n : Int), vs = [v, .int c, .bl t] ∧ StepAt H v (.meet b n) ∧ ∀ p H', Same H H' → H' p = some (.tup [.int (allowF c t b n).1, .int (allowF c t b n).2]) → Q (.ref p) H'
def spNarrow : Sp := fun vs H Q _ => ∃ (lo hi a b : Int), vs = [.int lo, .int hi, .int a, .int b] ∧ ∀ p H', Same H H' → H' p = some (.tup [.int (narrowF lo hi a b).1, .int (narrowF lo hi a b).2.1, .int (narrowF lo hi a b).2.2.1, goalV (narrowF lo hi a b).2.2.2]) → Q (.ref p) H'
def spNear : Sp := fun vs H Q _ => ∃ (g a b : Int), vs = [.int g, .int a, .int b] ∧ Q (.int (nearF g a b)) H
def spEffect (K : PySem.W.Frag) : Sp := fun vs H Q _ => ∃ (t : Addr) (ws : List V) (ss : List Stp) (c : Int), vs = [.ref t, .int c] ∧ SqT K H t ws ∧ (∀ H', Same H H' → SqT K H' t ws) ∧ Steps H ws ss ∧ ∀ q H', Same H H' → H' q = some (.tup (smV (smEnd (smSteps c ss)))) → Q (.ref q) H'
section
variable {P : Program} {w : World} {K : PySem.W.Frag} {mg : Str → Option Value} {base : Heap} {C TU pS gS : Addr} {mc : Value}
theorem scAllow : FnScope ["step", "chairs", "turned", "room", "need"] ["step", "chairs", "turned"] (defScope sAllow) := ⟨rfl, rfl, rfl, by decide +kernel, rfl, by decide +kernel, by decide +kernel⟩
theorem bl_eq (a t : Bool) : decide (V.bl a = V.bl t) = (a == t) := by
  cases a <;> cases t <;> decide
theorem ok_allow {f : Addr} {fd : FuncData} (F : Fun K "allowed_range" "allowed_range" sAllow f fd) : FnOk P w K mg base CX0 1 f fd ["step", "chairs", "turned"] spAllow := by
  refine F.ok scAllow (fun vs H Q E h => ?_) (fun cdv A outer s H vs Q E hr h => ?_)
  · obtain ⟨v, b, t, c, n, rfl, _⟩ := h
    rfl
  · obtain ⟨v, b, tt, c, n, rfl, ⟨t, rfl, ht⟩, k⟩ := h
    refine ⟨_, pss_cons (ps_asg (pv 0) (pg_tup rfl (pgs_cons (pg_name (i := 3) scAllow.nd rfl (.inl rfl)) (pgs_cons (pg_name (i := 4) scAllow.nd rfl (.inl rfl)) pgs_nil))))
      (pss_cons (ps_if (pt_cmpR op_eq (pe_cmpR op_eq (pv 3) pe_str (nomark _)) (pv 2) (nomark _)) (pss_one (ps_ret (pe_tup (pa_cons pe_int (pa_cons (pe_op op_sub (pv 1) (pv 4)) pa_nil))))) pss_nil)
      (pss_one (ps_ret (pe_tup (pa_cons (pv 4) (pa_cons (pv 1) pa_nil)))))), ?_⟩
    refine ⟨_, rfl, t, _, rfl, SqT.of ht, rfl, _, _, rfl, _, _, rfl, rfl, ?_⟩
    refine ⟨_, rfl, rfl, _, rfl, rfl, _, rfl, ?_⟩
    have e : decide (V.bl (decide (V.str (roomS b) = V.str "red")) = V.bl tt) = (b == tt) := by rw [room_eq, bl_eq]
    cases hb : (b == tt) with
    | true =>
      have ea : allowF c tt b n = (0, c - n) := by
        unfold allowF
        rw [if_pos hb]
      refine ifT (e.trans hb) ⟨_, rfl, _, rfl, _, _, rfl, rfl, by show 2 ≤ sizeLine; decide, fun p hp => k p _ (same_upd hp) ?_⟩
      rw [ea]
      exact upd_same
    | false =>
      have ea : allowF c tt b n = (n, c) := by
        unfold allowF
        simp [hb]
      refine ifF (e.trans hb) ⟨_, rfl, _, rfl, by show 2 ≤ sizeLine; decide, fun p hp => k p _ (same_upd hp) ?_⟩
      rw [ea]
      exact upd_same
theorem scNarrow : FnScope ["low", "high", "least", "most"] ["low", "high", "least", "most"] (defScope sNarrow) := ⟨rfl, rfl, rfl, by decide +kernel, rfl, by decide +kernel, by decide +kernel⟩
theorem ok_narrow {f : Addr} {fd : FuncData} (F : Fun K "narrowed" "narrowed" sNarrow f fd) (B : Bt mg) : FnOk P w K mg base CX0 1 f fd ["low", "high", "least", "most"] spNarrow := by
  refine F.ok scNarrow (fun vs H Q E h => ?_) (fun cdv A outer s H vs Q E hr h => ?_)
  · obtain ⟨lo, hi, a, b, rfl, _⟩ := h
    rfl
  · obtain ⟨lo, hi, a, b, rfl, k⟩ := h
    refine ⟨_, pss_cons (ps_if (pt_cmpR op_gt (pv 2) (pv 1) (nomark _)) (pss_one (ps_ret (pe_tup (pa_cons (pv 1) (pa_cons (pv 1) (pa_cons (pe_op op_sub (pv 2) (pv 1)) (pa_cons (pv 2) pa_nil))))))) pss_nil)
      (pss_cons (ps_if (pt_cmpR op_lt (pv 3) (pv 0) (nomark _)) (pss_one (ps_ret (pe_tup (pa_cons (pv 0) (pa_cons (pv 0) (pa_cons (pe_op op_sub (pv 0) (pv 3)) (pa_cons (pv 3) pa_nil))))))) pss_nil)
      (pss_one (ps_ret (pe_tup (pa_cons (pe_callB (call_max2 rfl) (by rfl) B.max (by decide +kernel) (pa_cons (pv 0) (pa_cons (pv 2) pa_nil))) (pa_cons (pe_callB (call_min2 rfl) (by rfl) B.min (by decide +kernel) (pa_cons (pv 1) (pa_cons (pv 3) pa_nil))) (pa_cons pe_int (pa_cons pe_non pa_nil)))))))), ?_⟩
    refine ⟨_, rfl, _, rfl, _, _, rfl, rfl, _, rfl, ?_⟩
    by_cases q1 : hi < a
    · refine ifT (decide_eq_true q1) ⟨_, rfl, _, rfl, _, rfl, _, rfl, _, _, rfl, rfl, _, rfl, by show 4 ≤ sizeLine; decide, fun p hp => k p _ (same_upd hp) ?_⟩
      rw [show narrowF lo hi a b = (hi, hi, a - hi, some a) by unfold narrowF; rw [if_pos q1]]
      exact upd_same
    · refine ifF (decide_eq_false q1) ⟨_, rfl, _, rfl, _, _, rfl, rfl, _, rfl, ?_⟩
      by_cases q2 : b < lo
      · refine ifT (decide_eq_true q2) ⟨_, rfl, _, rfl, _, rfl, _, rfl, _, _, rfl, rfl, _, rfl, by show 4 ≤ sizeLine; decide, fun p hp => k p _ (same_upd hp) ?_⟩
        rw [show narrowF lo hi a b = (lo, lo, lo - b, some b) by unfold narrowF; rw [if_neg q1, if_pos q2]]
        exact upd_same
      · refine ifF (decide_eq_false q2) ⟨_, rfl, _, rfl, _, _, rfl, _, rfl, _, rfl, _, _, rfl, by show 4 ≤ sizeLine; decide, fun p hp => k p _ (same_upd hp) ?_⟩
        rw [show narrowF lo hi a b = (mx lo a, (if b < hi then b else hi), 0, none) by unfold narrowF; rw [if_neg q1, if_neg q2]]
        exact upd_same
theorem scNear : FnScope ["number", "least", "most"] ["number", "least", "most"] (defScope sNear) := ⟨rfl, rfl, rfl, by decide +kernel, rfl, by decide +kernel, by decide +kernel⟩
theorem ok_near {f : Addr} {fd : FuncData} (F : Fun K "nearest" "nearest" sNear f fd) (B : Bt mg) : FnOk P w K mg base CX0 1 f fd ["number", "least", "most"] spNear := by
  refine F.ok scNear (fun vs H Q E h => ?_) (fun cdv A outer s H vs Q E hr h => ?_)
  · obtain ⟨g, a, b, rfl, _⟩ := h
    rfl
  · obtain ⟨g, a, b, rfl, k⟩ := h
    refine ⟨_, pss_one (ps_ret (pe_callB (call_min2 rfl) (by rfl) B.min (by decide +kernel) (pa_cons (pe_callB (call_max2 rfl) (by rfl) B.max (by decide +kernel) (pa_cons (pv 0) (pa_cons (pv 1) pa_nil))) (pa_cons (pv 2) pa_nil)))), ?_⟩
    exact ⟨_, rfl, _, rfl, _, _, rfl, _, rfl, _, _, rfl, k⟩
abbrev nEffect : List Str := ["steps", "chairs", "low", "high", "extra", "goal", "turned", "step", "least", "most", "moved"]
theorem scEffect : FnScope nEffect ["steps", "chairs"] (defScope sEffect) := ⟨rfl, rfl, rfl, by decide +kernel, rfl, by decide +kernel, by decide +kernel⟩
theorem ok_effect {f f2 f3 f4 : Addr} {fd : FuncData} (F : Fun K "effect_of" "effect_of" sEffect f fd) (T : Txt K mg C TU pS gS mc) (DA : Dn P w K mg base 1 "allowed_range" f2 spAllow)
    (DN : Dn P w K mg base 1 "narrowed" f3 spNarrow) (DE : Dn P w K mg base 1 "nearest" f4 spNear) : FnOk P w K mg base CX0 2 f fd ["steps", "chairs"] (spEffect K) := by
  refine F.ok scEffect (fun vs H Q E h => ?_) (fun cdv A outer s H vs Q E hr h => ?_)
  · obtain ⟨p, ws, ss, c, rfl, _⟩ := h
    rfl
  · obtain ⟨p, ws, ss, c, rfl, hT, hT2, e3, k⟩ := h
    have r1 : Room 1 _ := hr
    refine ⟨_, pss_cons (ps_asg (pe_tup (pa_cons pe_int (pa_cons (pv 1) (pa_cons pe_int (pa_cons pe_non (pa_cons pe_bl pa_nil)))))) (pg_tup rfl (pgs_cons (pg_name (i := 2) scEffect.nd rfl (.inl rfl)) (pgs_cons (pg_name (i := 3) scEffect.nd rfl (.inl rfl)) (pgs_cons (pg_name (i := 4) scEffect.nd rfl (.inl rfl)) (pgs_cons (pg_name (i := 5) scEffect.nd rfl (.inl rfl)) (pgs_cons (pg_name (i := 6) scEffect.nd rfl (.inl rfl)) pgs_nil)))))))
      (pss_cons (ps_for PassesOwn.never rfl (pi_tup (pv 0)) (pg_name (i := 7) scEffect.nd rfl (.inl rfl))
        (pss_cons (ps_if (pt_cmpR (op_eqD hr.units) (pv 7) (pe_glob (v := .ref TU) rfl T.gT rfl) (nomark _)) (pss_cons (ps_set (i := 6) scEffect.nd rfl (.inl rfl) (pe_not (pv 6))) (pss_one ps_continue)) pss_nil)
        (pss_cons (ps_asg (pe_callR DA.ok r1 rfl DA.at_ DA.kp pass0 (pa_cons (pv 7) (pa_cons (pv 1) (pa_cons (pv 6) pa_nil)))) (pg_tup rfl (pgs_cons (pg_name (i := 8) scEffect.nd rfl (.inl rfl)) (pgs_cons (pg_name (i := 9) scEffect.nd rfl (.inl rfl)) pgs_nil))))
        (pss_one (ps_if (pt_cmpR op_isN (pv 5) pe_non (nomark _))
          (pss_one (ps_asg (pe_callR DN.ok r1 rfl DN.at_ DN.kp pass0 (pa_cons (pv 2) (pa_cons (pv 3) (pa_cons (pv 8) (pa_cons (pv 9) pa_nil))))) (pg_tup rfl (pgs_cons (pg_name (i := 2) scEffect.nd rfl (.inl rfl)) (pgs_cons (pg_name (i := 3) scEffect.nd rfl (.inl rfl)) (pgs_cons (pg_name (i := 4) scEffect.nd rfl (.inl rfl)) (pgs_cons (pg_name (i := 5) scEffect.nd rfl (.inl rfl)) pgs_nil)))))))
          (pss_cons (ps_set (i := 10) scEffect.nd rfl (.inl rfl) (pe_callR DE.ok r1 rfl DE.at_ DE.kp pass0 (pa_cons (pv 5) (pa_cons (pv 8) (pa_cons (pv 9) pa_nil)))))
          (pss_cons (ps_aug (i := 4) scEffect.nd rfl (.inl rfl) (pe_callB call_abs (by rfl) T.b.abs (by decide +kernel) (pa_cons (pe_op op_sub (pv 10) (pv 5)) pa_nil)) ip_add)
          (pss_one (ps_set (i := 5) scEffect.nd rfl (.inl rfl) (pv 10))))))))))
      (pss_cons (ps_if (PW.pt (pw_and (pt_cmpR op_eq (pv 2) (pv 3) (nomark _)) (pw_and1 (pt_cmpR op_isN (pv 5) pe_non (nomark _))))) (pss_one (ps_set (i := 5) scEffect.nd rfl (.inl rfl) (pv 2))) pss_nil)
      (pss_one (ps_ret (pe_tup (pa_cons (pv 2) (pa_cons (pv 3) (pa_cons (pv 4) (pa_cons (pv 5) (pa_cons (pv 6) pa_nil)))))))))), ?_⟩
    refine ⟨_, rfl, by show 5 ≤ sizeLine; decide, fun t5 ht5 => ?_⟩
    have s2 := same_upd (o := .tup [.int 0, .int c, .int 0, .non, .bl false]) ht5
    refine ⟨t5, _, rfl, SqT.of upd_same, rfl, _, _, rfl, _, _, rfl, _, _, rfl, _, _, rfl, _, _, rfl, rfl, ?_⟩
    refine ⟨_, rfl, p, rfl, ⟨_, hT2 _ s2⟩, for_tup (K := K) (a := p) (xs := ws) (fun i σ H' => ∃ (x7 x8 x9 x10 : Option V), σ = [some (.ref p), some (.int c), some (.int (smSteps c (ss.take i)).low), some (.int (smSteps c (ss.take i)).high), some (.int (smSteps c (ss.take i)).extra), some (goalV (smSteps c (ss.take i)).goal), some (.bl (smSteps c (ss.take i)).turned), x7, x8, x9, x10] ∧ Same (upd H t5 (.tup [.int 0, .int c, .int 0, .non, .bl false])) H')
      ⟨none, none, none, none, rfl, Same.refl _⟩ (fun i σ H' _ ⟨_, _, _, _, _, s3⟩ => hT2 _ (s2.trans s3)) ?_ ?_⟩
    · rintro i v σ H2 hi ⟨x7, x8, x9, x10, rfl, s3⟩
      obtain ⟨st, hst, t, rfl, ht0⟩ := e3.get hi
      have ht := s3 _ _ (s2 _ _ ht0)
      have em : smSteps c (ss.take (i + 1)) = smStep c (smSteps c (ss.take i)) st := by rw [take_more hst, smSteps_more]
      generalize smSteps c (ss.take i) = m at *
      obtain ⟨low, high, extra, goal, turned⟩ := m
      cases st with
      | turn =>
        refine ⟨_, rfl, .tuple [.str "turn"], .tuple [.str "turn"], .tup (SqT.of ht) (.cons (.str _) .nil), .tup (T.tT _) (.cons (.str _) .nil), by decide +kernel, by decide +kernel, _, rfl, ?_⟩
        refine ifT eqv_turn ⟨_, rfl, _, rfl, ?_⟩
        refine ⟨some (.ref t), x8, x9, x10, ?_, s3⟩
        rw [em]
        rfl
      | meet bb n =>
        refine ⟨_, rfl, .tuple [.str (roomS bb), .int n], .tuple [.str "turn"], .tup (SqT.of ht) (.cons (.str _) (.cons (.int _) .nil)), .tup (T.tT _) (.cons (.str _) .nil), shaped_meet bb n, by decide +kernel, _, rfl, ?_⟩
        refine ifF (eqv_meet bb n) ⟨_, rfl, _, rfl, _, rfl, _, bb, turned, c, n, rfl, ⟨t, rfl, ht⟩, fun q H3 s4 hq => ?_⟩
        refine ⟨q, _, rfl, SqT.of hq, rfl, _, _, rfl, _, _, rfl, rfl, ?_⟩
        cases goal with
        | none =>
          refine ⟨_, rfl, rfl, _, rfl, ?_⟩
          refine ifT (decide_eq_true rfl) ⟨_, rfl, _, rfl, _, rfl, _, rfl, low, high, _, _, rfl, fun q2 H4 s5 hq2 => ?_⟩
          refine ⟨q2, _, rfl, SqT.of hq2, rfl, _, _, rfl, _, _, rfl, _, _, rfl, _, _, rfl, rfl, ?_⟩
          refine ⟨some (.ref t), some (.int (allowF c turned bb n).1), some (.int (allowF c turned bb n).2), x10, ?_, (s3.trans s4).trans s5⟩
          rw [em]
          rfl
        | some z =>
          refine ⟨_, rfl, rfl, _, rfl, ?_⟩
          refine ifF (by simp [goalV]) ⟨_, rfl, _, rfl, _, rfl, z, _, _, rfl, ?_⟩
          refine ⟨_, rfl, _, rfl, _, rfl, _, _, rfl, rfl, _, rfl, _, _, rfl, rfl, _, rfl, ?_⟩
          refine ⟨some (.ref t), some (.int (allowF c turned bb n).1), some (.int (allowF c turned bb n).2), some (.int (nearF z (allowF c turned bb n).1 (allowF c turned bb n).2)), ?_, s3.trans s4⟩
          rw [em]
          rfl
    · rintro σ H2 ⟨x7, x8, x9, x10, rfl, s3⟩
      rw [e3.length, List.take_length]
      generalize smSteps c ss = m at *
      obtain ⟨low, high, extra, goal, turned⟩ := m
      have fin : ∀ g : Option Int, smEnd ⟨low, high, extra, goal, turned⟩ = ⟨low, high, extra, g, turned⟩ → ∀ q, H2 q = none → Q (.ref q) (upd H2 q (.tup [.int low, .int high, .int extra, goalV g, .bl turned])) := fun g hg q hq => by
        refine k q _ ((s2.trans s3).trans (same_upd hq)) ?_
        rw [hg]
        exact upd_same
      refine ⟨_, rfl, _, rfl, rfl, _, rfl, ?_⟩
      by_cases q1 : low = high
      · refine ifT (by rw [q1]; exact decide_eq_true rfl) ⟨_, rfl, rfl, _, rfl, ?_⟩
        cases goal with
        | none =>
          refine ifT (decide_eq_true rfl) ⟨_, rfl, _, rfl, _, rfl, _, rfl, _, rfl, _, rfl, by show 5 ≤ sizeLine; decide, fun q hq => ?_⟩
          exact fin (some low) (by unfold smEnd; rw [if_pos ⟨q1, rfl⟩]) q hq
        | some z =>
          refine ifF (by simp [goalV]) ⟨_, rfl, _, rfl, _, rfl, _, rfl, _, rfl, by show 5 ≤ sizeLine; decide, fun q hq => ?_⟩
          exact fin (some z) (by unfold smEnd; rw [if_neg (fun h => nomatch h.2)]) q hq
      · refine ifF (decide_eq_false fun h => q1 (by injection h)) ?_
        refine iteF ⟨_, rfl, _, rfl, _, rfl, _, rfl, _, rfl, by show 5 ≤ sizeLine; decide, fun q hq => ?_⟩
        exact fin goal (by unfold smEnd; rw [if_neg (fun h => q1 h.1)]) q hq
end
end Cc

namespace Cc
open PySem PySem.Spec PyProof.Rows L2
def spSummary (C : Addr) : Sp := fun vs H Q _ => ∃ (p : Addr) (ss : List Stp) (c : Int), vs = [.ref p, .int c] ∧ PlanAt C H p ss ∧ 0 ≤ c ∧ c ≤ 1000000000000000000 ∧ (∀ s ∈ ss, s.ok c) ∧ ss.length ≤ 60 ∧ ∀ q H', Same H H' → H' q = some (.tup (smV (smEnd (smSteps c ss)))) → Q (.ref q) H'
section
variable {P : Program} {w : World} {K : PySem.W.Frag} {mg : Str → Option Value} {base : Heap} {C TU pS gS : Addr} {mc : Value}
abbrev s_summary : Stmt := top 19
abbrev n_summary : List Str := ["plan", "chairs"]
theorem sc_summary : FnScope n_summary ["plan", "chairs"] (defScope s_summary) := ⟨rfl, rfl, rfl, by decide +kernel, rfl, by decide +kernel, by decide +kernel⟩
theorem ok_summary {f f_check_house f_effect_of : Addr} {fd fdS : FuncData} (F : Fun K "summary" "summary" s_summary f fd) (T : Txt K mg C TU pS gS mc) (G : Gs P w K mg base C gS fdS) (D_check_house : Dn P w K mg base 3 "check_house" f_check_house (spChkHouse C)) (D_effect_of : Dn P w K mg base 2 "effect_of" f_effect_of (spEffect K)) : FnOk P w K mg base CX0 4 f fd ["plan", "chairs"] (spSummary C) := by
  refine F.ok sc_summary (fun vs H Q E h => ?_) (fun cdv A outer s H vs Q E hr h => ?_)
  · obtain ⟨p, ss, c, rfl, _⟩ := h
    rfl
  · obtain ⟨p, ss, c, rfl, hp, h0, h1, ho, hn, k⟩ := h
    refine ⟨_, pss_cons (ps_expr (pe_callR D_check_house.ok (hr.mono (by decide)) rfl D_check_house.at_ D_check_house.kp pass0 (pa_cons (pv 0) (pa_cons (pv 1) pa_nil))))
      (pss_one (ps_ret (pe_callR D_effect_of.ok (hr.mono (by decide)) rfl D_effect_of.at_ D_effect_of.kp pass0 (pa_cons (pe_prop (pv 0) T.cl T.pr G.ok (hr.mono (by decide)) G.b .nil pass0 rfl) (pa_cons (pv 1) pa_nil))))), ?_⟩
    refine ⟨_, rfl, _, rfl, p, c, ss, rfl, hp, h0, h1, ho, hn, fun H1 s1 => ?_⟩
    obtain ⟨dx, tp, ws, e1, e2, e3⟩ := hp.same s1
    exact ⟨_, rfl, p, dx, _, rfl, e1, p, dx, _, _, rfl, e1, lk_self, _, rfl, tp, ws, ss, c, rfl, SqT.of e2, (fun H' s' => SqT.of (s' _ _ e2)), e3, fun q H2 s2 e => k q H2 (s1.trans s2) e⟩
end
end Cc

/-! The play of steps one by one; three more rules. -/
namespace Cc
open PySem PySem.Spec PyProof.Rows L2
def carryF (c : Int) : List Stp → Int → List Int
  | [], _ => []
  | s :: ss, r => (stepF c s r).2 :: carryF c ss (stepF c s r).1
theorem stepsF_fst (c : Int) : ∀ (ss : List Stp) (r t u : Int), (stepsF c ss (r, t)).1 = (stepsF c ss (r, u)).1
  | [], _, _, _ => rfl
  | s :: ss, r, t, u => stepsF_fst c ss (stepF c s r).1 _ _
theorem carryF_one (c : Int) (s : Stp) : ∀ (ss : List Stp) (r : Int), carryF c (ss ++ [s]) r = carryF c ss r ++ [(stepF c s (stepsF c ss (r, 0)).1).2]
  | [], r => rfl
  | z :: ss, r => by
    show (stepF c z r).2 :: carryF c (ss ++ [s]) (stepF c z r).1 = (stepF c z r).2 :: (carryF c ss (stepF c z r).1 ++ [(stepF c s (stepsF c ss ((stepF c z r).1, 0 + (stepF c z r).2)).1).2])
    rw [carryF_one c s ss (stepF c z r).1, stepsF_fst c ss (stepF c z r).1 0 (0 + (stepF c z r).2)]
theorem carryF_len (c : Int) : ∀ (ss : List Stp) (r : Int), (carryF c ss r).length = ss.length
  | [], _ => rfl
  | s :: ss, r => by
    show (carryF c ss (stepF c s r).1).length + 1 = ss.length + 1
    rw [carryF_len c ss]
theorem carryF_sum (c : Int) : ∀ (ss : List Stp) (r : Int), (carryF c ss r).sum = (stepsF c ss (r, 0)).2
  | [], _ => rfl
  | s :: ss, r => by
    show ((stepF c s r).2 :: carryF c ss (stepF c s r).1).sum = (stepsF c ss ((stepF c s r).1, 0 + (stepF c s r).2)).2
    rw [List.sum_cons, carryF_sum c ss, stepsF_add c ss (stepF c s r).1 (0 + (stepF c s r).2), Int.zero_add]
theorem nuMax3_int (a b z : Int) : nuMax3 (.int a) (.int b) (.int z) = some (.int (if (if a < b then b else a) < z then z else (if a < b then b else a))) := by
  by_cases h : a < b
  · by_cases h2 : b < z <;> simp [nuMax3, nuMax2, nuLt, nuCB, h, h2]
  · by_cases h2 : a < z <;> simp [nuMax3, nuMax2, nuLt, nuCB, h, h2]
/-- a <= b <= c <= d, a test -/
def tChain3 (r1 r2 r3 : R2) (ta tb tc td : TE) : TT := fun σ H Q => ta σ H fun x H1 => tb σ H1 fun y H2 => r1 x y H2 fun z H3 => ∃ k, z = .bl k ∧
  (if k = true then tc σ H3 fun x2 H4 => r2 y x2 H4 fun z2 H5 => ∃ k2, z2 = .bl k2 ∧ (if k2 = true then td σ H5 fun x3 H6 => r3 x2 x3 H6 fun z3 H7 => ∃ k3, z3 = .bl k3 ∧ Q k3 H7 else Q false H5) else Q false H3)
section
variable {X : Cx} {a b c d : Expr} {ta tb tc td : TE} {pos : Pos}
theorem pt_chain3 {o1 o2 o3 : CmpOp} {r1 r2 r3 : R2} (h1 : OpR X (compareOp o1) r1) (h2 : OpR X (compareOp o2) r2) (h3 : OpR X (compareOp o3) r3) (ha : PE X a ta) (hb : PE X b tb) (hc : PE X c tc) (hd : PE X d td)
    (hm : lastMarks [o1, o2, o3] [b, c, d] = false := by with_unfolding_all rfl) : PT X (.Compare a [o1, o2, o3] [b, c, d] pos) (tChain3 r1 r2 r3 ta tb tc td) := by
  refine ⟨fun pn s sg Hh Qq J h => isTrue_chain ?_ hm⟩
  refine thn (ha.run pn s sg Hh _ J h) fun v1 z1 ⟨x1, G1, J1, e1, p1⟩ => test_link ?_
  refine thn (hb.run pn z1 sg G1 _ J1 p1) fun v2 z2 ⟨x2, G2, J2, e2, p2⟩ => ?_
  refine thn (h1 pn z2 sg G2 x1 x2 v1 v2 _ J2 e1 e2 p2) fun v3 z3 ⟨y1, G3, J3, e3, k1, f1, p3⟩ => ?_
  subst f1
  cases e3
  refine wpAny_truthy_bool ?_
  cases k1 with
  | false => exact ite_ff ⟨G3, J3, p3⟩
  | true =>
    refine ite_tt (test_link ?_)
    refine thn (hc.run pn z3 sg G3 _ J3 p3) fun v4 z4 ⟨x3, G4, J4, e4, p4⟩ => ?_
    refine thn (h2 pn z4 sg G4 x2 x3 v2 v4 _ J4 e2 e4 p4) fun v5 z5 ⟨y2, G5, J5, e5, k2, f2, p5⟩ => ?_
    subst f2
    cases e5
    refine wpAny_truthy_bool ?_
    cases k2 with
    | false => exact ite_ff ⟨G5, J5, p5⟩
    | true =>
      refine ite_tt (test_last ?_)
      refine thn (hd.run pn z5 sg G5 _ J5 p5) fun v6 z6 ⟨x4, G6, J6, e6, p6⟩ => ?_
      refine thn (h3 pn z6 sg G6 x3 x4 v4 v6 _ J6 e4 e6 p6) fun v7 z7 ⟨y3, G7, J7, e7, k3, f3, p7⟩ => ?_
      subst f3
      cases e7
      exact wpAny_truthy_bool ⟨G7, J7, p7⟩
end
end Cc

namespace Cc
open PySem PySem.Spec PyProof.Rows L2
abbrev sPlayed : Stmt := top 32
def spPlayed : Sp := fun vs H Q _ => ∃ (l : Addr) (ws : List V) (ss : List Stp) (c r : Int), vs = [.ref l, .int c, .int r] ∧ H l = some (.lst ws) ∧ Steps H ws ss ∧ ss.length ≤ 100000 ∧
  ∀ p q H', H q = none → Same H H' → H' p = some (.tup [.ref q, .int (stepsF c ss (r, 0)).1]) → H' q = some (.lst ((carryF c ss r).map V.int)) → Q (.ref p) H'
section
variable {P : Program} {w : World} {K : PySem.W.Frag} {mg : Str → Option Value} {base : Heap}
theorem scPlayed : FnScope ["_law_steps", "_law_chairs", "_law_start_here", "_law_red", "_law_blue", "_law_carried", "_law_step", "_law_shifted"] ["_law_steps", "_law_chairs", "_law_start_here"] (defScope sPlayed) := ⟨rfl, rfl, rfl, by decide +kernel, rfl, by decide +kernel, by decide +kernel⟩
theorem ok_played {f : Addr} {fd : FuncData} (F : Fun K "_law_played" "_law_played" sPlayed f fd) (B : Bt mg) : FnOk P w K mg base CX0 1 f fd ["_law_steps", "_law_chairs", "_law_start_here"] spPlayed := by
  refine F.ok scPlayed (fun vs H Q E h => ?_) (fun cdv A outer s H vs Q E hr h => ?_)
  · obtain ⟨l, ws, ss, c, r, rfl, _⟩ := h
    rfl
  · obtain ⟨l, ws, ss, c, r, rfl, hl, hs, hn, k⟩ := h
    refine ⟨_, pss_cons (ps_par3 (i := 3) (j := 4) (l := 5) rfl scPlayed.nd rfl rfl rfl (by decide) (by decide) (by decide) rfl rfl rfl (pa_cons (pv 2) (pa_cons (pe_op op_sub (pv 1) (pv 2)) (pa_cons (pe_lst pa_nil) pa_nil))) (by rfl))
      (pss_cons (ps_for PassesOwn.never rfl (pi_list (pv 0)) (pg_name (i := 6) scPlayed.nd rfl (.inl rfl))
        (pss_cons (ps_set (i := 7) scPlayed.nd rfl (.inl rfl) pe_int)
        (pss_cons (ps_if (pt_cmpR op_eq (pe_ix ix_tup (pv 6) pe_int (fun _ _ => rfl)) pe_str (nomark _))
          (pss_one (ps_par (i := 3) (j := 4) rfl scPlayed.nd rfl rfl (by decide) rfl rfl (pa_cons (pv 4) (pa_cons (pv 3) pa_nil)) (by rfl)))
          (pss_one (ps_if (pt_cmpR op_eq (pe_ix ix_tup (pv 6) pe_int (fun _ _ => rfl)) pe_str (nomark _))
            (pss_cons (ps_set (i := 7) scPlayed.nd rfl (.inl rfl) (pe_callB (call_max2 rfl) (by rfl) B.max (by decide +kernel) (pa_cons pe_int (pa_cons (pe_op op_sub (pe_ix ix_tup (pv 6) pe_int (fun _ _ => rfl)) (pv 3)) pa_nil))))
              (pss_one (ps_par (i := 3) (j := 4) rfl scPlayed.nd rfl rfl (by decide) rfl rfl (pa_cons (pe_op op_add (pv 3) (pv 7)) (pa_cons (pe_op op_sub (pv 4) (pv 7)) pa_nil)) (by rfl))))
            (pss_cons (ps_set (i := 7) scPlayed.nd rfl (.inl rfl) (pe_callB (call_max2 rfl) (by rfl) B.max (by decide +kernel) (pa_cons pe_int (pa_cons (pe_op op_sub (pe_ix ix_tup (pv 6) pe_int (fun _ _ => rfl)) (pv 4)) pa_nil))))
              (pss_one (ps_par (i := 3) (j := 4) rfl scPlayed.nd rfl rfl (by decide) rfl rfl (pa_cons (pe_op op_sub (pv 3) (pv 7)) (pa_cons (pe_op op_add (pv 4) (pv 7)) pa_nil)) (by rfl)))))))
        (pss_one (ps_expr (pe_bm PySem.F.plainAttrs_list PySem.F.slot_list_append PySem.F.type_list_append mt_append (pv 5) (pa_cons (pv 7) pa_nil)))))))
      (pss_one (ps_ret (pe_tup (pa_cons (pv 5) (pa_cons (pv 3) pa_nil)))))), ?_⟩
    refine ⟨_, rfl, _, rfl, _, rfl, _, _, rfl, rfl, by show 0 ≤ sizeLine; decide, fun q hq => ⟨_, _, _, rfl, ?_⟩⟩
    refine ⟨_, rfl, l, rfl, ⟨_, SqL.of ((same_upd hq) _ _ hl)⟩, for_list (K := K) (a := l) (xs := ws) (fun i σ H' => ∃ (x y : Option V), σ = [some (.ref l), some (.int c), some (.int r), some (.int (stepsF c (ss.take i) (r, 0)).1), some (.int (c - (stepsF c (ss.take i) (r, 0)).1)), some (.ref q), x, y] ∧ Same H H' ∧ H' q = some (.lst ((carryF c (ss.take i) r).map V.int)))
      ⟨none, none, rfl, same_upd hq, upd_same⟩ (fun i σ H' _ ⟨_, _, _, s1, _⟩ => SqL.of (s1 _ _ hl)) ?_ ?_⟩
    · rintro i v σ H1 hi ⟨x, y, rfl, s1, e1⟩
      obtain ⟨st, hst, t, rfl, ht0⟩ := hs.get hi
      have ht := s1 _ _ ht0
      have il : i < ss.length := (List.getElem?_eq_some_iff.mp hst).1
      have hlen : ((carryF c (ss.take i) r).map V.int).length < sizeLine := by
        rw [List.length_map, carryF_len, List.length_take, sizeLine_eq]
        omega
      have et : stepsF c (ss.take (i + 1)) (r, 0) = ((stepF c st (stepsF c (ss.take i) (r, 0)).1).1, (stepsF c (ss.take i) (r, 0)).2 + (stepF c st (stepsF c (ss.take i) (r, 0)).1).2) := by rw [take_more hst, stepsF_one]
      have ec : carryF c (ss.take (i + 1)) r = carryF c (ss.take i) r ++ [(stepF c st (stepsF c (ss.take i) (r, 0)).1).2] := by rw [take_more hst, carryF_one]
      -- what stands behind the turn
      have fin : ∀ (a b d : Int), a = (stepF c st (stepsF c (ss.take i) (r, 0)).1).1 → b = c - (stepF c st (stepsF c (ss.take i) (r, 0)).1).1 → d = (stepF c st (stepsF c (ss.take i) (r, 0)).1).2 →
          ∃ (x y : Option V), [some (V.ref l), some (.int c), some (.int r), some (.int a), some (.int b), some (.ref q), some (.ref t), some (.int d)] = [some (.ref l), some (.int c), some (.int r), some (.int (stepsF c (ss.take (i + 1)) (r, 0)).1), some (.int (c - (stepsF c (ss.take (i + 1)) (r, 0)).1)), some (.ref q), x, y] ∧ Same H (upd H1 q (.lst ((carryF c (ss.take i) r).map V.int ++ [.int d]))) ∧ upd H1 q (.lst ((carryF c (ss.take i) r).map V.int ++ [.int d])) q = some (.lst ((carryF c (ss.take (i + 1)) r).map V.int)) := by
        rintro a b d rfl rfl rfl
        refine ⟨some (.ref t), some (.int (stepF c st (stepsF c (ss.take i) (r, 0)).1).2), by rw [et], same_new hq s1, upd_lst ?_⟩
        rw [ec, List.map_append]
        rfl
      cases st with
      | turn =>
        refine ⟨_, rfl, t, _, _, _, rfl, rfl, SqT.of ht, at_of (j := 0) rfl rfl, rfl, _, rfl, ?_⟩
        refine ifT (decide_eq_true rfl) ⟨_, rfl, _, rfl, _, _, rfl, ?_⟩
        refine ⟨_, rfl, .inl ⟨rfl, _, SqL.of e1⟩, _, rfl, q, _, _, rfl, rfl, e1, hlen, ?_⟩
        exact fin _ _ _ rfl (by show _ = c - (c - _); omega) rfl
      | meet bb n =>
        refine ⟨_, rfl, t, _, _, _, rfl, rfl, SqT.of ht, at_of (j := 0) rfl rfl, rfl, _, rfl, ?_⟩
        refine ifF (room_turn bb) ⟨_, rfl, t, _, _, _, rfl, rfl, SqT.of ht, at_of (j := 0) rfl rfl, rfl, _, rfl, ?_⟩
        rw [room_eq]
        cases bb with
        | true =>
          refine iteT ⟨_, rfl, t, _, _, _, rfl, rfl, SqT.of ht, at_of (j := 1) rfl rfl, _, rfl, _, _, rfl, rfl, _, _, rfl, ?_⟩
          refine ⟨_, rfl, _, rfl, _, _, rfl, rfl, _, rfl, _, rfl, _, _, rfl, rfl, _, _, rfl, ?_⟩
          refine ⟨_, rfl, .inl ⟨rfl, _, SqL.of e1⟩, _, rfl, q, _, _, rfl, rfl, e1, hlen, ?_⟩
          exact fin _ _ _ rfl (by simp only [stepF, mx]; omega) rfl
        | false =>
          refine iteF ⟨_, rfl, t, _, _, _, rfl, rfl, SqT.of ht, at_of (j := 1) rfl rfl, _, rfl, _, _, rfl, rfl, _, _, rfl, ?_⟩
          refine ⟨_, rfl, _, rfl, _, _, rfl, rfl, _, rfl, _, rfl, _, _, rfl, rfl, _, _, rfl, ?_⟩
          refine ⟨_, rfl, .inl ⟨rfl, _, SqL.of e1⟩, _, rfl, q, _, _, rfl, rfl, e1, hlen, ?_⟩
          exact fin _ _ _ rfl (by simp only [stepF, mx]; omega) rfl
    · rintro σ H1 ⟨x, y, rfl, s1, e1⟩
      rw [hs.length, List.take_length] at e1 ⊢
      refine ⟨_, rfl, _, rfl, by show 2 ≤ sizeLine; decide, fun p hp => ?_⟩
      exact k p q _ hq (s1.trans (same_upd hp)) upd_same ((same_upd hp) _ _ e1)
end
end Cc

/-! A rule of our own: a set of ints by two clauses, {e for a in xs for b in ys if t}. -/
namespace Cc
open PySem PySem.Spec PyProof.Rows L2
/-- the comprehension: the first clause has no test -/
abbrev scE (el ta ia tb ib : Expr) (fb : List Expr) (sc : Scope) (ps : Pos) : Expr := .SetComp el [⟨ta, ia, [], 0⟩, ⟨tb, ib, fb, 0⟩] sc ps
section
variable {pr : Program} {ww : World} {A : Around} {R : Result → Shared → Prop} {st : Shared} {el ta ia tb ib : Expr} {fb : List Expr} {sc : Scope} {ps : Pos} {it ac : Value} {en : Env}
theorem noX {α : Type} {M : Model} {t : Sem α} {G : α → Shared → Prop} {E : Value → Shared → Prop} (h : wpAny M A t G (fun _ _ => False) st) : wpAny M A t G E st := wpAny_mono h (fun _ _ q => q) fun _ _ q => q.elim
theorem sc_outer (hf : ∀ x, foldedSetIterable ib en x = pure x) (J : Nat → Shared → Prop)
    (go : ∀ n z, J n z → wpAny (model pr ww) A (pyNext it) (fun r z1 => match r with
      | none => R (.ok .next) z1
      | some v => wpAny (model pr ww) A (letOwnedTupleGo ta it v) (fun _ z2 => wpAny (model pr ww) A (assign ta en v) (fun _ z3 => wpAny (model pr ww) A (eval ib en) (fun x z4 => wpAny (model pr ww) A (pyIter x) (fun i2 z5 =>
          codeAny (model pr ww) A (.compStart (scE el ta ia tb ib fb sc ps) 1 i2 ac en) (fun r z6 => match r with | .ok _ => ∃ m, m < n ∧ J m z6 | .error _ => False) z5)
          (fun _ _ => False) z4) (fun _ _ => False) z3) (fun _ _ => False) z2) (fun _ _ => False) z1) (fun _ _ => False) z) (n : Nat) (h : J n st) :
    codeAny (model pr ww) A (.compLoop (scE el ta ia tb ib fb sc ps) 0 it ac en) R st := by
  refine codeAny_loop rfl J (fun n z hz => ?_) n h
  show wpAny _ A ((compTurn (scE el ta ia tb ib fb sc ps) 0 it ac en).onRaise (fun x => do noteFrame x en; theTreesLotGoes x)) _ _ z
  refine wpAny_noted ?_
  have tree : compTurn (scE el ta ia tb ib fb sc ps) 0 it ac en = (do
      standAt ia.pos
      match ← pyNext it with
      | none => pure (.done .next)
      | some v =>
        letOwnedTupleGo ta it v
        assign ta en v
        let mut good := true
        for c in ([] : List Expr) do
          if good then good ← isTrue c en (eval c en)
        if good then
          let x ← eval ib en
          standAt ib.pos
          let x ← foldedSetIterable ib en x
          let _ ← runOwn (.compStart (scE el ta ia tb ib fb sc ps) 1 (← holding [x] (pyIter x)) ac en) en
        again (.compLoop (scE el ta ia tb ib fb sc ps) 0 it ac en)) := by rfl
  rw [tree]
  refine wpAny_bind (wpAny_standAt (wpAny_bind (wpAny_mono (go n z hz) (fun r z1 h1 => ?_) fun _ _ q => q.elim)))
  cases r with
  | none => exact wpAny_pure h1
  | some v =>
    refine wpAny_bind (wpAny_mono h1 (fun _ z2 h2 => wpAny_bind (wpAny_mono h2 (fun _ z3 h3 => ?_) fun _ _ q => q.elim)) fun _ _ q => q.elim)
    refine wpAny_bind (wpAny_of_eq (a := true) (by rfl) ?_)
    refine wpAny_bind (wpAny_mono h3 (fun x z4 h4 => ?_) fun _ _ q => q.elim)
    refine wpAny_bind (wpAny_standAt (wpAny_bind (wpAny_of_eq (hf x) (wpAny_bind (wpAny_holding (wpAny_mono h4 (fun i2 z5 h5 => ?_) fun _ _ q => q.elim))))))
    refine wpAny_bind (wpAny_runOwn (M := model pr ww) ?_)
    rw [Around.mark_none]
    refine codeAny_mono h5 fun r z6 h6 => ?_
    cases r with
    | error e => exact h6.elim
    | ok f => first
      | exact wpAny_pure ⟨rfl, h6⟩
      | exact wpAny_bind (wpAny_pure (wpAny_pure ⟨rfl, h6⟩))
theorem sc_inner (J : Nat → Shared → Prop)
    (go : ∀ n z, J n z → wpAny (model pr ww) A (pyNext it) (fun r z1 => match r with
      | none => R (.ok .next) z1
      | some v => wpAny (model pr ww) A (letOwnedTupleGo tb it v) (fun _ z2 => wpAny (model pr ww) A (assign tb en v) (fun _ z3 =>
          wpAny (model pr ww) A (forIn fb true fun c r => if r = true then do let ok ← isTrue c en (eval c en); pure (ForInStep.yield ok) else pure (ForInStep.yield r)) (fun good z4 =>
            if good = true then wpAny (model pr ww) A (eval el en) (fun x z5 => wpAny (model pr ww) A (call (.builtin "set.add") [ac, x]) (fun _ z6 => ∃ m, m < n ∧ J m z6) (fun _ _ => False) z5) (fun _ _ => False) z4
            else ∃ m, m < n ∧ J m z4) (fun _ _ => False) z3) (fun _ _ => False) z2) (fun _ _ => False) z1) (fun _ _ => False) z) (n : Nat) (h : J n st) :
    codeAny (model pr ww) A (.compLoop (scE el ta ia tb ib fb sc ps) 1 it ac en) R st := by
  refine codeAny_loop rfl J (fun n z hz => ?_) n h
  show wpAny _ A ((compTurn (scE el ta ia tb ib fb sc ps) 1 it ac en).onRaise (fun x => do noteFrame x en; theTreesLotGoes x)) _ _ z
  refine wpAny_noted ?_
  have tree : compTurn (scE el ta ia tb ib fb sc ps) 1 it ac en = (do
      standAt ib.pos
      match ← pyNext it with
      | none => pure (.done .next)
      | some v =>
        letOwnedTupleGo tb it v
        assign tb en v
        let mut good := true
        for c in fb do
          if good then good ← isTrue c en (eval c en)
        if good then
          (do let v ← eval el en; standAt el.pos; let _ ← call (.builtin "set.add") [ac, v])
        again (.compLoop (scE el ta ia tb ib fb sc ps) 1 it ac en)) := by rfl
  rw [tree]
  refine wpAny_bind (wpAny_standAt (wpAny_bind (wpAny_mono (go n z hz) (fun r z1 h1 => ?_) fun _ _ q => q.elim)))
  cases r with
  | none => exact wpAny_pure h1
  | some v =>
    refine wpAny_bind (wpAny_mono h1 (fun _ z2 h2 => wpAny_bind (wpAny_mono h2 (fun _ z3 h3 => ?_) fun _ _ q => q.elim)) fun _ _ q => q.elim)
    refine wpAny_bind (wpAny_mono h3 (fun good z4 h4 => ?_) fun _ _ q => q.elim)
    cases good with
    | false => exact wpAny_pure ⟨rfl, h4⟩
    | true => exact wpAny_bind (wpAny_bind (wpAny_mono h4 (fun x z5 h5 => wpAny_bind (wpAny_standAt (wpAny_bind (wpAny_mono h5 (fun _ z6 h6 => wpAny_pure (wpAny_pure ⟨rfl, h6⟩)) fun _ _ q => q.elim)))) fun _ _ q => q.elim))
/-- the second clause begins -/
theorem sc_begin (h0 : codeAny (model pr ww) A (.compLoop (scE el ta ia tb ib fb sc ps) 1 it ac en) R st)
    (h : wpAny (model pr ww) A (pyIter it) (fun i2 z => codeAny (model pr ww) A (.compLoop (scE el ta ia tb ib fb sc ps) 1 i2 ac en) R z) (fun _ _ => False) st) :
    codeAny (model pr ww) A (.compStart (scE el ta ia tb ib fb sc ps) 1 it ac en) R st := by
  refine codeAny_of_tree ?_
  show wpAny _ _ ((compStart (scE el ta ia tb ib fb sc ps) 1 it ac en).onRaise (fun x => do noteFrame x en; standAt theWindowsPlace)) _ _ st
  refine wpAny_notedAt ?_
  unfold compStart
  show wpAny _ _ (ask >>= _) _ _ st
  apply wpAny_bind; refine wpAny_askSetting (wpAny_ite ?_)
  split
  · first
      | exact wpAny_pure ⟨rfl, h0⟩
      | exact wpAny_bind (wpAny_pure (wpAny_pure ⟨rfl, h0⟩))
  · apply wpAny_bind; refine wpAny_rule ?_
    show wpAny _ _ (standAt ib.pos >>= _) _ _ st
    exact wpAny_bind (wpAny_standAt (wpAny_bind (wpAny_mono h (fun i2 z q => wpAny_pure ⟨rfl, q⟩) fun _ _ q => q.elim)))
end
/-- its reading: D the new set; behind the first clause's store the second source's own loop, from which Nx is reached -/
def tSc2 (w : World) (wi : TI) (g : TG) (wi1 : TI) (g1 : TG) (tt1 : TT) (te : TE) (vs vs1 : List Nat) : TE := fun sg G Q => wi sg G fun J G1 => ∀ D, G1 D = none →
  ∃ W : Nat → Nat → Hp → Prop, (∃ m, W 0 m (upd G1 D (SetO w D (fun _ => false) 0))) ∧ ∀ i m G, W i m G →
    (J.stop i G ∧ Q (.ref D) G) ∨ (J.go i G ∧ ∃ Nx : Hp → Prop, (∀ G', Nx G' → ∃ m', m' < m ∧ W (i + 1) m' G') ∧ ∀ x G', J.yld i G x G' →
      g x (wipe sg vs) G' fun sg2 G2 => wipe sg2 vs = wipe sg vs ∧ wi1 sg2 G2 fun J1 G3 => ∃ W1 : Nat → Nat → Hp → Prop, (∃ m, W1 0 m G3) ∧ ∀ j k G, W1 j k G →
        (J1.stop j G ∧ Nx G) ∨ (J1.go j G ∧ ∃ Ny : Hp → Prop, (∀ G', Ny G' → ∃ k', k' < k ∧ W1 (j + 1) k' G') ∧ ∀ x G', J1.yld j G x G' →
          g1 x (wipe sg2 vs1) G' fun sg3 G4 => wipe sg3 vs1 = wipe sg2 vs1 ∧ tt1 sg3 G4 fun b G5 =>
            if b = true then te sg3 G5 fun y G6 => ∃ (c : Int) (S : Int → Bool) (n : Nat), y = .int c ∧ G6 D = some (SetO w D S n) ∧ n + 1 < scanBound ∧ Ny (upd G6 D (SetO w D (fun j => S j || decide (j = c)) (if S c = true then n else n + 1))) else Ny G5))
section
variable {X : Cx}
theorem pe_sc2 {el ta ia tb ib : Expr} {fb : List Expr} {sc : Scope} {own : List (Str × Nat)} {vs1 : List Nat} {ps : Pos} {wi wi1 : TI} {g g1 : TG} {tt1 : TT} {te : TE} (hc : X.calm = true) (hN : X.N.Nodup) (hi : PI X ta ia wi) (ok : BlkOk X.N X.env.scope sc own) (hv : ∀ i ∈ vs1, i ∈ own.map (·.2))
    (hg : ∀ (s : Shared) (H : Hp) (C : Addr) (cl : List (Str × Addr)) (fp : List Addr), PG (X.blk s H sc (compEnvC sc cl C X.env) fp) ta g)
    (hi1 : ∀ (s : Shared) (H : Hp) (C : Addr) (cl : List (Str × Addr)) (fp : List Addr), PI (X.blk s H sc (compEnvC sc cl C X.env) fp) tb ib wi1)
    (hg1 : ∀ (s : Shared) (H : Hp) (C : Addr) (cl : List (Str × Addr)) (fp : List Addr), PG (X.blk s H sc (compEnvC sc cl C X.env) fp) tb g1)
    (ht1 : ∀ (s : Shared) (H : Hp) (C : Addr) (cl : List (Str × Addr)) (fp : List Addr), PTs (X.blk s H sc (compEnvC sc cl C X.env) fp) fb tt1)
    (he : ∀ (s : Shared) (H : Hp) (C : Addr) (cl : List (Str × Addr)) (fp : List Addr), PE (X.blk s H sc (compEnvC sc cl C X.env) fp) el te)
    (hs : ∀ x, foldedSetIterable ia X.env x = pure x := by intro _; rfl) (hs1 : ∀ env x, foldedSetIterable ib env x = pure x := by intro _ _; rfl) :
    PE X (scE el ta ia tb ib fb sc ps) (tSc2 X.w wi g wi1 g1 tt1 te (own.map (·.2)) vs1) := by
  refine ⟨fun pz z0 sg G0 Qq K0 h => ?_⟩
  rw [PpSet.eval_SetComp]
  have frees : ∀ y ∈ sc.names, y.2 = .free → ∃ c, X.env.cells.lookup y.1 = some c := fun y hy e => K0.ok.has _ ((ok.free y hy e).elim (fun a => .inl a) fun a => .inr a)
  refine wpAny_comprehension_free (use := none) rfl hs (closure_ok frees) ok.kind (fun y hy e => (ok.uniq y hy).trans (congrArg some e)) (thn (hi.run pz z0 sg G0 _ K0 h) fun _ z1 h1 => thn h1 fun iv z2 h2 => ?_)
  obtain ⟨it, fp, tn, Jt, G2, rfl, K2, T, t2, f2, q⟩ := h2
  refine PpSet.newSet_ok (newEnv_comp ?_)
  -- the new set, at D
  obtain ⟨D, hD⟩ : ∃ D, D = z2.heap.objs.size := ⟨_, rfl⟩
  rw [← hD]
  have freeD : G2 D = none := K2.hok.fresh (Nat.le_of_eq hD.symm)
  obtain ⟨W, ⟨m0, w0⟩, turn⟩ := q D freeD
  obtain ⟨z3, hz3⟩ : ∃ z3 : Shared, z3 = { z2 with heap := z2.heap.push { cls := .type "set", dict := none, data := .set #[] 0 (.fresh 0 0 (!X.w.params.followText "set-order")) } } := ⟨_, rfl⟩
  have p3 : z3.heap = z2.heap.push { cls := .type "set", dict := none, data := .set #[] 0 (.fresh 0 0 (!X.w.params.followText "set-order")) } := by rw [hz3]
  have keep3 : ∀ b o, z2.heap.get? b = some o → z3.heap.get? b = some o := fun b o e => by
    rw [p3]
    exact Heap.get?_push_of_some (h := z2.heap) _ e
  have K3 : Inv X pz sg (upd G2 D (SetO X.w D (fun _ => false) 0)) z3 := by
    rw [hz3]
    exact K2.laid (t' := z2.toks) (fun b o e => Heap.get?_push_of_some _ e) (Nat.le_of_eq hD.symm) (hD ▸ setO_new (setR_fresh X.w))
  have old : ∀ b ∈ fp, b < z2.heap.objs.size := fun b hb => (T.obj _ _ t2 b hb).elim fun _ e => Heap.lt_size e.1
  have f3 : ∀ b ∈ fp, FpOk X pz (upd G2 D (SetO X.w D (fun _ => false) 0)) b ∧ b < z3.heap.objs.size := fun b hb =>
    ⟨⟨by rw [upd_ne (by rw [hD]; exact Nat.ne_of_lt (old b hb))]; exact (f2 b hb).1, (f2 b hb).2⟩, by rw [p3, Heap.size_push]; exact Nat.lt_succ_of_lt (old b hb)⟩
  have K4 := block_start K3 ok hN f3
  have nf : ∀ b ∈ fp, upd G2 D (SetO X.w D (fun _ => false) 0) b = none := fun b hb => (f3 b hb).1.1
  -- the block's context
  have Bg := hg z3 (upd G2 D (SetO X.w D (fun _ => false) 0)) z3.heap.objs.size (cellsFrom (z3.heap.objs.size + 1) sc.names (cloFrom X.env.cells sc.names [])) fp
  have Bi := hi1 z3 (upd G2 D (SetO X.w D (fun _ => false) 0)) z3.heap.objs.size (cellsFrom (z3.heap.objs.size + 1) sc.names (cloFrom X.env.cells sc.names [])) fp
  have Bh := hg1 z3 (upd G2 D (SetO X.w D (fun _ => false) 0)) z3.heap.objs.size (cellsFrom (z3.heap.objs.size + 1) sc.names (cloFrom X.env.cells sc.names [])) fp
  have Bt := ht1 z3 (upd G2 D (SetO X.w D (fun _ => false) 0)) z3.heap.objs.size (cellsFrom (z3.heap.objs.size + 1) sc.names (cloFrom X.env.cells sc.names [])) fp
  have Be := he z3 (upd G2 D (SetO X.w D (fun _ => false) 0)) z3.heap.objs.size (cellsFrom (z3.heap.objs.size + 1) sc.names (cloFrom X.env.cells sc.names [])) fp
  have goal : codeAny (model X.prog X.w) X.A (.compStart (scE el ta ia tb ib fb sc ps) 0 (.ref it) (.ref D) (compEnvC sc (cellsFrom (z3.heap.objs.size + 1) sc.names (cloFrom X.env.cells sc.names [])) z3.heap.objs.size X.env))
      (compPost (model X.prog X.w) X.A X.xe none (EP X pz sg Qq) (.ref D) z3.heap.objs.size) { z3 with heap := pushCells (z3.heap.push { cls := .type "dict", data := .dict #[] }) sc.names } := by
    obtain ⟨ce, hce⟩ : ∃ ce, ce = compEnvC sc (cellsFrom (z3.heap.objs.size + 1) sc.names (cloFrom X.env.cells sc.names [])) z3.heap.objs.size X.env := ⟨_, rfl⟩
    rw [← hce] at K4 Bg Bi Bh Bt Be ⊢
    have lc : ce.locals = z3.heap.objs.size := by rw [hce]; rfl
    obtain ⟨G3, hG3⟩ : ∃ G3, G3 = upd G2 D (SetO X.w D (fun _ => false) 0) := ⟨_, rfl⟩
    rw [← hG3] at K3 K4 Bg Bi Bh Bt Be w0 f3
    have nf3 : ∀ b ∈ fp, G3 b = none := fun b hb => (f3 b hb).1.1
    obtain ⟨z4, hz4⟩ : ∃ z4 : Shared, z4 = { z3 with heap := pushCells (z3.heap.push { cls := .type "dict", data := .dict #[] }) sc.names } := ⟨_, rfl⟩
    rw [← hz4] at K4 ⊢
    have t4 : tn 0 z4.heap := T.keep _ _ _ t2 fun b _ o e => by
      rw [hz4]
      exact pushCells_keeps _ _ _ _ (Heap.get?_push_of_some _ (keep3 b o e))
    -- the iterator's objects stay untracked
    have fpk : ∀ {sg' : L2.St} {G' : Hp} {z' : Shared}, Inv (X.blk z3 G3 sc ce fp) [] sg' G' z' → (∀ b ∈ fp, G' b = none) → ∀ b ∈ fp, FpOk (X.blk z3 G3 sc ce fp) [] G' b := fun Kk hn b hb =>
      ⟨hn b hb, (Kk.ok.exf b hb).1, Kk.ok.exfs b hb, .inl hb, fun x c e => (Kk.ok.exf b hb).2 x c e, fun p hp => by simp at hp⟩
    have loop : codeAny (model X.prog X.w) X.A (.compLoop (scE el ta ia tb ib fb sc ps) 0 (.ref it) (.ref D) ce) (compPost (model X.prog X.w) X.A X.xe none (EP X pz sg Qq) (.ref D) z3.heap.objs.size) z4 := by
      refine sc_outer (hs1 ce) (fun n z => ∃ i G, Inv (X.blk z3 G3 sc ce fp) [] (wipe sg (own.map (·.2))) G z ∧ tn i z.heap ∧ (∀ b ∈ fp, G b = none) ∧ W i n G) ?_ m0 ⟨0, G3, K4, t4, nf3, w0⟩
      rintro n z5 ⟨i, G5, K5, t5, n5, w5⟩
      rcases turn i n G5 w5 with ⟨halt, qq⟩ | ⟨go, Nx, hNx, step⟩
      · refine thnF (T.done (X.blk z3 G3 sc ce fp) rfl rfl rfl hc i [] z5 _ G5 (fun _ _ => False) K5 (fpk K5 n5) t5 halt) fun r z6 ⟨hr, K6⟩ => ?_
        subst hr
        have K7 : Inv X pz sg G5 z6 := K3.call' (ch := fp) K6.os K6.base K6.hok K6.bare fun b hb => ⟨(f3 b hb).1.2.2.2.1, (f3 b hb).1.2.1, (f3 b hb).1.2.2.2.2.1, (f3 b hb).1.2.2.2.2.2⟩
        have nC : G5 z3.heap.objs.size = none := lc ▸ (show G5 ce.locals = none from K6.free)
        obtain ⟨m, hm, _⟩ := K6.loc
        have ff := K3.fpOk (Nat.le_refl _) nC
        refine ⟨m, lc ▸ (show z6.heap.Ns ce.locals m from hm), fun h'' sb => ?_⟩
        obtain ⟨a0, a1, _, a3, a4, a5⟩ := ff
        exact ⟨.ref D, G5, K7.turned (t' := z6.toks) (fun b o hb e => (sb.2 b hb).trans e) a0 a1 a3 a4 a5, rfl, qq⟩
      · refine thnF (T.item (X.blk z3 G3 sc ce fp) rfl rfl rfl hc i [] z5 _ G5 (fun _ _ => False) K5 (fpk K5 n5) t5 go) fun r z6 ⟨u, hr, h6⟩ => ?_
        subst hr
        refine thnF h6 fun _ z7 ⟨x, G7, K7, r7, y7, t7, n7⟩ => ?_
        refine thnF (Bg.run _ z7 _ G7 x u _ (K7.pinned (fpk K7 n7) (T.obj _ _ t7)) r7 (step x G7 y7)) fun _ z8 ⟨sg8, G8, K8, w8, q8⟩ => ?_
        have len8 : (wipe sg (own.map (·.2))).length = sg8.length := by rw [← w8, wipe_length]
        -- the turn's end
        have fin : ∀ {z' : Shared} {G' : Hp}, Inv (X.blk z3 G3 sc ce fp) ([] ++ pinsAt fp z7.heap) (wipe sg8 vs1) G' z' → Nx G' → ∃ m, m < n ∧ ∃ i G, Inv (X.blk z3 G3 sc ce fp) [] (wipe sg (own.map (·.2))) G z' ∧ tn i z'.heap ∧ (∀ b ∈ fp, G b = none) ∧ W i m G := fun {z' G'} Kk nx => by
          obtain ⟨m', lt, w'⟩ := hNx G' nx
          have pin : ∀ b ∈ fp, ∀ o, z7.heap.get? b = some o → z'.heap.get? b = some o ∧ G' b = none := fun b hb o e =>
            let y := Kk.pin (b, o) (List.mem_append_right _ (List.mem_append_right _ (mem_pinsAt hb e)))
            ⟨y.1, y.2.1⟩
          refine ⟨m', lt, i + 1, G', (Kk.unpinned (pins := [])).weak (by rw [len8, wipe_length]) (fun j v e => ?_), T.keep _ _ _ t7 fun b hb o e => (pin b hb o e).1, fun b hb => ?_, w'⟩
          · rw [← w8] at e
            obtain ⟨e1, e2⟩ := wipe_some (σ := sg8) e
            rw [wipe_out fun y => e2 (hv j y)]
            exact e1
          · obtain ⟨o, e, _⟩ := T.obj _ _ t7 b hb
            exact (pin b hb o e).2
        refine thnF (Bi.run _ z8 sg8 G8 _ K8 q8) fun _ z9 h9 => thnF h9 fun iw z10 h10 => ?_
        obtain ⟨it1, fp1, tn1, J1, G10, rfl, K10, T1, t10, f10, W1, ⟨m1, w1⟩, turn1⟩ := h10
        have fpk1 : ∀ {G' : Hp}, (∀ b ∈ fp1, G' b = none) → ∀ b ∈ fp1, FpOk (X.blk z3 G3 sc ce fp) ([] ++ pinsAt fp z7.heap) G' b := fun hn b hb => ⟨hn b hb, (f10 b hb).2⟩
        have loop1 : codeAny (model X.prog X.w) X.A (.compLoop (scE el ta ia tb ib fb sc ps) 1 (.ref it1) (.ref D) ce)
            (fun r z' => match r with | .ok _ => ∃ m, m < n ∧ ∃ i G, Inv (X.blk z3 G3 sc ce fp) [] (wipe sg (own.map (·.2))) G z' ∧ tn i z'.heap ∧ (∀ b ∈ fp, G b = none) ∧ W i m G | .error _ => False) z10 := by
          refine sc_inner (fun k z => ∃ j G, Inv (X.blk z3 G3 sc ce fp) ([] ++ pinsAt fp z7.heap) (wipe sg8 vs1) G z ∧ tn1 j z.heap ∧ (∀ b ∈ fp1, G b = none) ∧ W1 j k G) ?_ m1 ⟨0, G10, K10.weak (wipe_length _ _) (fun j v e => (wipe_some e).1), t10, fun b hb => (f10 b hb).1, w1⟩
          rintro k z11 ⟨j, G11, K11, t11, n11, w11⟩
          rcases turn1 j k G11 w11 with ⟨halt1, nx1⟩ | ⟨go1, Ny, hNy, step1⟩
          · refine thnF (T1.done (X.blk z3 G3 sc ce fp) rfl rfl rfl hc j _ z11 (wipe sg8 vs1) G11 (fun _ _ => False) K11 (fpk1 n11) t11 halt1) fun r z12 ⟨hr, K12⟩ => ?_
            subst hr
            exact fin K12 nx1
          · refine thnF (T1.item (X.blk z3 G3 sc ce fp) rfl rfl rfl hc j _ z11 (wipe sg8 vs1) G11 (fun _ _ => False) K11 (fpk1 n11) t11 go1) fun r z12 ⟨u1, hr, h12⟩ => ?_
            subst hr
            refine thnF h12 fun _ z13 ⟨x1, G13, K13, r13, y13, t13, n13⟩ => ?_
            refine thnF (Bh.run _ z13 (wipe sg8 vs1) G13 x1 u1 _ (K13.pinned (fpk1 n13) (T1.obj _ _ t13)) r13 (step1 x1 G13 y13)) fun _ z14 ⟨sg14, G14, K14, w14, q14⟩ => ?_
            refine thnF (Bt.run _ z14 sg14 G14 _ K14 q14) fun b z15 ⟨G15, K15, q15⟩ => ?_
            have fin1 : ∀ {z' : Shared} {G' : Hp}, Inv (X.blk z3 G3 sc ce fp) (([] ++ pinsAt fp z7.heap) ++ pinsAt fp1 z13.heap) sg14 G' z' → Ny G' → ∃ m, m < k ∧ ∃ j G, Inv (X.blk z3 G3 sc ce fp) ([] ++ pinsAt fp z7.heap) (wipe sg8 vs1) G z' ∧ tn1 j z'.heap ∧ (∀ b ∈ fp1, G b = none) ∧ W1 j m G := fun {z' G'} Kk nx => by
              obtain ⟨m', lt, w'⟩ := hNy G' nx
              have pin : ∀ b ∈ fp1, ∀ o, z13.heap.get? b = some o → z'.heap.get? b = some o ∧ G' b = none := fun b hb o e =>
                let y := Kk.pin (b, o) (List.mem_append_right _ (List.mem_append_right _ (mem_pinsAt hb e)))
                ⟨y.1, y.2.1⟩
              refine ⟨m', lt, j + 1, G', Kk.unpinned.weak (by rw [← w14, wipe_length]) (fun j v e => by rw [← w14] at e; exact (wipe_some e).1), T1.keep _ _ _ t13 fun b hb o e => (pin b hb o e).1, fun b hb => ?_, w'⟩
              obtain ⟨o, e, _⟩ := T1.obj _ _ t13 b hb
              exact (pin b hb o e).2
            cases b with
            | false =>
              simp only [Bool.false_eq_true, if_false] at q15 ⊢
              exact fin1 K15 q15
            | true =>
              simp only [if_true] at q15 ⊢
              refine thnF (Be.run _ z15 sg14 G15 _ K15 q15) fun v z16 ⟨y, G16, K16, r16, c, S, nn, ey, hS, hroom, nx⟩ => ?_
              subst ey
              refine wpAny_mono (((mt_sadd (X := X.blk z3 G3 sc ce fp)) _ z16 sg14 G16 (.ref D) [.int c] (.ref D) [v] (fun _ G' => Ny G') K16 rfl (.cons r16 .nil) ⟨D, c, S, nn, rfl, rfl, hS, hroom, nx⟩)) (fun _ z17 ⟨_, G17, K17, _, q17⟩ => fin1 K17 q17) fun _ _ q => q
        exact sc_begin loop1 (T1.self X.A 0 _ _ _ t10 loop1)
    exact PpSet.codeAny_compStart_set loop (T.self X.A 0 _ _ _ t4 loop)
  exact hz3 ▸ goal
end
end Cc

/-! The first start at which two plans differ is a telling one. -/
namespace Cc
open PySem PySem.Spec PyProof.Rows L2
/-- what a plan leaves and carries from x -/
abbrev outF (c : Int) (ss : List Stp) (x : Int) : Int × Int := stepsF c ss (x, 0)
theorem smEnd_ends (m : Sm) : (smEnd m).low = m.low ∧ (smEnd m).high = m.high := by
  unfold smEnd
  split <;> exact ⟨rfl, rfl⟩
theorem dist_even {lo hi x : Int} (h : lo ≤ hi) (h1 : x ≠ lo) (h2 : x ≠ lo + 1) (h3 : x ≠ hi) (h4 : x ≠ hi + 1) : distF lo hi x = 2 * distF lo hi (x - 1) - distF lo hi (x - 2) ∧ clampF lo hi x = 2 * clampF lo hi (x - 1) - clampF lo hi (x - 2) := by
  unfold distF clampF
  constructor <;> omega
/-- off the ends both numbers go on evenly -/
theorem out_even {c x : Int} {ss : List Stp} (hs : ∀ s ∈ ss, s.ok c) (x2 : 2 ≤ x) (x1 : x ≤ c) (h1 : x ≠ (smSteps c ss).low) (h2 : x ≠ (smSteps c ss).low + 1) (h3 : x ≠ (smSteps c ss).high) (h4 : x ≠ (smSteps c ss).high + 1) :
    (outF c ss x).1 = 2 * (outF c ss (x - 1)).1 - (outF c ss (x - 2)).1 ∧ (outF c ss x).2 = 2 * (outF c ss (x - 1)).2 - (outF c ss (x - 2)).2 := by
  obtain ⟨ok, a1, a2⟩ := smSteps_says (c := c) (x := x) (by omega) x1 ss hs
  obtain ⟨_, b1, b2⟩ := smSteps_says (c := c) (x := x - 1) (by omega) (by omega) ss hs
  obtain ⟨_, d1, d2⟩ := smSteps_says (c := c) (x := x - 2) (by omega) (by omega) ss hs
  obtain ⟨e1, e2⟩ := dist_even ok.lh h1 h2 h3 h4
  show (stepsF c ss (x, 0)).1 = 2 * (stepsF c ss (x - 1, 0)).1 - (stepsF c ss (x - 2, 0)).1 ∧ (stepsF c ss (x, 0)).2 = 2 * (stepsF c ss (x - 1, 0)).2 - (stepsF c ss (x - 2, 0)).2
  generalize (stepsF c ss (x, 0)) = px at *
  generalize (stepsF c ss (x - 1, 0)) = py at *
  generalize (stepsF c ss (x - 2, 0)) = pz at *
  obtain ⟨px1, px2⟩ := px
  obtain ⟨py1, py2⟩ := py
  obtain ⟨pz1, pz2⟩ := pz
  simp only at a1 a2 b1 b2 d1 d2
  generalize smSteps c ss = m at *
  obtain ⟨low, high, extra, goal, turned⟩ := m
  simp only at a1 a2 b1 b2 d1 d2 e1 e2
  refine ⟨?_, by show px2 = 2 * py2 - pz2; omega⟩
  show px1 = 2 * py1 - pz1
  cases goal <;> cases turned <;> simp [placeF, sideF] at a2 b2 d2 <;> omega
/-- the numbers that `telling` lists: 0 and both plans' ends, each with the next -/
def boundsF (c : Int) (a b : List Stp) : List Int := [0, (smSteps c a).low, (smSteps c a).high, (smSteps c b).low, (smSteps c b).high]
def TellF (c : Int) (a b : List Stp) (x : Int) : Prop := x ≤ c ∧ ∃ z ∈ boundsF c a b, x = z ∨ x = z + 1
theorem tell_first {c x : Int} {a b : List Stp} (ha : ∀ s ∈ a, s.ok c) (hb : ∀ s ∈ b, s.ok c) (x0 : 0 ≤ x) (x1 : x ≤ c) (hd : outF c a x ≠ outF c b x) (hs : ∀ y, 0 ≤ y → y < x → outF c a y = outF c b y) : TellF c a b x := by
  by_cases q : TellF c a b x
  · exact q
  · exfalso
    have f : ∀ z ∈ boundsF c a b, x ≠ z ∧ x ≠ z + 1 := fun z hz => ⟨fun e => q ⟨x1, z, hz, .inl e⟩, fun e => q ⟨x1, z, hz, .inr e⟩⟩
    simp only [boundsF, List.mem_cons, List.not_mem_nil, or_false, forall_eq_or_imp, forall_eq] at f
    obtain ⟨f0, f1, f2, f3, f4⟩ := f
    obtain ⟨p1, p2⟩ := out_even ha (show 2 ≤ x by omega) x1 f1.1 f1.2 f2.1 f2.2
    obtain ⟨q1, q2⟩ := out_even hb (show 2 ≤ x by omega) x1 f3.1 f3.2 f4.1 f4.2
    have g1 := hs (x - 1) (by omega) (by omega)
    have g2 := hs (x - 2) (by omega) (by omega)
    rw [g1, g2] at p1 p2
    exact hd (Prod.ext (p1.trans q1.symm) (p2.trans q2.symm))
/-- what first_difference answers -/
def FirstF (c : Int) (a b : List Stp) : Option Int → Prop
  | none => ∀ x, 0 ≤ x → x ≤ c → outF c a x = outF c b x
  | some x => 0 ≤ x ∧ x ≤ c ∧ outF c a x ≠ outF c b x ∧ ∀ y, 0 ≤ y → y < x → outF c a y = outF c b y
theorem below {c : Int} {a b : List Stp} (ha : ∀ s ∈ a, s.ok c) (hb : ∀ s ∈ b, s.ok c) {n : Int} (hn : n ≤ c + 1) (ht : ∀ y, 0 ≤ y → y < n → TellF c a b y → outF c a y = outF c b y) : ∀ (k : Nat) (y : Int), y = (k : Int) → y < n → outF c a y = outF c b y := by
  intro k
  induction k using Nat.strongRecOn with
  | _ k ih =>
    intro y hy hlt
    by_cases q : outF c a y = outF c b y
    · exact q
    · exact ht y (by omega) hlt (tell_first ha hb (by omega) (by omega) q fun z z0 z1 => ih z.toNat (by omega) z (by omega) (by omega))
theorem first_some {c : Int} {a b : List Stp} (ha : ∀ s ∈ a, s.ok c) (hb : ∀ s ∈ b, s.ok c) {x : Int} (x0 : 0 ≤ x) (x1 : x ≤ c) (hd : outF c a x ≠ outF c b x) (ht : ∀ y, 0 ≤ y → y < x → TellF c a b y → outF c a y = outF c b y) : FirstF c a b (some x) :=
  ⟨x0, x1, hd, fun y y0 y1 => below ha hb (n := x) (by omega) ht y.toNat y (by omega) y1⟩
theorem first_none {c : Int} {a b : List Stp} (ha : ∀ s ∈ a, s.ok c) (hb : ∀ s ∈ b, s.ok c) (ht : ∀ y, 0 ≤ y → y ≤ c → TellF c a b y → outF c a y = outF c b y) : FirstF c a b none :=
  fun x x0 x1 => below ha hb (n := c + 1) (by omega) (fun y y0 y1 => ht y y0 (by omega)) x.toNat x (by omega) (by omega)
theorem first_uniq {c : Int} {a b : List Stp} : ∀ {o o' : Option Int}, FirstF c a b o → FirstF c b a o' → o = o'
  | none, none, _, _ => rfl
  | none, some x, h, ⟨x0, x1, hd, _⟩ => absurd (h x x0 x1).symm hd
  | some x, none, ⟨x0, x1, hd, _⟩, h => absurd (h x x0 x1).symm hd
  | some x, some y, ⟨x0, x1, hd, hm⟩, ⟨y0, y1, he, hn⟩ => by
    have e : x = y := by
      rcases Int.lt_trichotomy x y with q | q | q
      · exact absurd (hn x x0 q).symm hd
      · exact q
      · exact absurd (hm y y0 q).symm he
    rw [e]
theorem eqv_ints (a b c d : Int) : PyData.eqv (.tuple [.int a, .int b]) (.tuple [.int c, .int d]) = decide ((a, b) = (c, d)) := by
  have q : ∀ i j : Int, (i == j) = decide (i = j) := fun i j => by by_cases h : i = j <;> simp [h]
  simp [PyData.eqv, PyData.eqvAll, q]
theorem shaped_ints (a b : Int) : SeqAt.shaped (.tuple [.int a, .int b]) = true := by
  simp [SeqAt.shaped, PyData.canLay0, PyData.canLayAll0, PyData.depth, PyData.depthAll]
/-- a part of a list of steps -/
theorem Steps.drop {H : Hp} : ∀ {vs : List V} {ss : List Stp} (n : Nat), Steps H vs ss → Steps H (vs.drop n) (ss.drop n)
  | _, _, 0, h => h
  | _, _, _ + 1, .nil => .nil
  | _, _, n + 1, .cons _ t => Steps.drop n t
theorem Steps.take {H : Hp} : ∀ {vs : List V} {ss : List Stp} (n : Nat), Steps H vs ss → Steps H (vs.take n) (ss.take n)
  | _, _, 0, _ => .nil
  | _, _, _ + 1, .nil => .nil
  | _, _, n + 1, .cons r t => .cons r (Steps.take n t)
theorem Steps.cut {H : Hp} {vs : List V} {ss : List Stp} (h : Steps H vs ss) (lo hi : Option Int) : ∃ us, Steps H (cutV vs lo hi) us ∧ us.length ≤ ss.length ∧ ∀ u ∈ us, u ∈ ss := by
  refine ⟨_, (h.drop _).take _, ?_, fun u hu => List.mem_of_mem_drop (List.mem_of_mem_take hu)⟩
  simp only [List.length_take, List.length_drop]
  omega
/-- a walk with a body of any form -/
theorem walk_any {J : It} {n : Nat} {G0 : Hp} {Nx : Hp → Prop} {Bd : V → Hp → (Hp → Prop) → Prop} (Pv : Nat → Hp → Prop) (h0 : Pv 0 G0) (hgo : ∀ i H, i < n → Pv i H → J.go i H) (hst : ∀ H, Pv n H → J.stop n H)
    (hs : ∀ i x H H', i < n → Pv i H → J.yld i H x H' → Bd x H' (Pv (i + 1))) (hd : ∀ H, Pv n H → Nx H) :
    ∃ W : Nat → Nat → Hp → Prop, (∃ m, W 0 m G0) ∧ ∀ j k G, W j k G → (J.stop j G ∧ Nx G) ∨ (J.go j G ∧ ∃ Ny : Hp → Prop, (∀ G', Ny G' → ∃ k', k' < k ∧ W (j + 1) k' G') ∧ ∀ x G', J.yld j G x G' → Bd x G' Ny) := by
  refine ⟨fun i m G => m = n - i ∧ i ≤ n ∧ Pv i G, ⟨n, (Nat.sub_zero n).symm, Nat.zero_le _, h0⟩, ?_⟩
  rintro i m H ⟨rfl, hi, p⟩
  by_cases hlt : i < n
  · exact .inr ⟨hgo i H hlt p, Pv (i + 1), fun H' p' => ⟨n - (i + 1), by omega, rfl, hlt, p'⟩, fun x H' y => hs i x H H' hlt p y⟩
  · have e : i = n := by omega
    subst e
    exact .inl ⟨hst H p, hd H p⟩
theorem walk_tup {K : PySem.W.Frag} {a : Addr} {xs : List V} {G0 : Hp} {Nx : Hp → Prop} {Bd : V → Hp → (Hp → Prop) → Prop} (Pv : Nat → Hp → Prop) (h0 : Pv 0 G0) (hl : ∀ i H, Pv i H → SqT K H a xs)
    (hs : ∀ i x H, xs[i]? = some x → Pv i H → Bd x H (Pv (i + 1))) (hd : ∀ H, Pv xs.length H → Nx H) :
    ∃ W : Nat → Nat → Hp → Prop, (∃ m, W 0 m G0) ∧ ∀ j k G, W j k G → ((Itt K a).stop j G ∧ Nx G) ∨ ((Itt K a).go j G ∧ ∃ Ny : Hp → Prop, (∀ G', Ny G' → ∃ k', k' < k ∧ W (j + 1) k' G') ∧ ∀ x G', (Itt K a).yld j G x G' → Bd x G' Ny) :=
  walk_any (n := xs.length) Pv h0 (fun i H hi p => ⟨xs, xs[i], hl i H p, by simp [hi]⟩) (fun H p => ⟨xs, hl _ H p, Nat.le_refl _⟩) (fun i x H H' hi p y => by
    obtain ⟨e, y⟩ := y
    subst e
    exact hs i x _ (y xs (hl i _ p)) p) hd
theorem walk_list {K : PySem.W.Frag} {a : Addr} {xs : List V} {G0 : Hp} {Nx : Hp → Prop} {Bd : V → Hp → (Hp → Prop) → Prop} (Pv : Nat → Hp → Prop) (h0 : Pv 0 G0) (hl : ∀ i H, Pv i H → SqL K H a xs)
    (hs : ∀ i x H, xs[i]? = some x → Pv i H → Bd x H (Pv (i + 1))) (hd : ∀ H, Pv xs.length H → Nx H) :
    ∃ W : Nat → Nat → Hp → Prop, (∃ m, W 0 m G0) ∧ ∀ j k G, W j k G → ((Itl K a).stop j G ∧ Nx G) ∨ ((Itl K a).go j G ∧ ∃ Ny : Hp → Prop, (∀ G', Ny G' → ∃ k', k' < k ∧ W (j + 1) k' G') ∧ ∀ x G', (Itl K a).yld j G x G' → Bd x G' Ny) :=
  walk_any (n := xs.length) Pv h0 (fun i H hi p => ⟨xs, xs[i], hl i H p, by simp [hi]⟩) (fun H p => ⟨xs, hl _ H p, Nat.le_refl _⟩) (fun i x H H' hi p y => by
    obtain ⟨e, y⟩ := y
    subst e
    exact hs i x _ (y xs (hl i _ p)) p) hd
theorem mem_before {ns : List Int} (hp : ns.Pairwise (· < ·)) {i : Nat} {z y : Int} (hz : ns[i]? = some z) (hy : y ∈ ns) (hlt : y < z) : y ∈ ns.take i := by
  obtain ⟨j, hj, ej⟩ := List.mem_iff_getElem.mp hy
  obtain ⟨hi, ei⟩ := List.getElem?_eq_some_iff.mp hz
  by_cases q : j < i
  · rw [List.mem_take_iff_getElem]
    exact ⟨j, by omega, ej⟩
  · exfalso
    by_cases e : j = i
    · subst e
      omega
    · have := List.pairwise_iff_getElem.mp hp i j hi hj (by omega)
      omega
/-! ### lists of steps: cut, joined, twice -/
section
variable {K : PySem.W.Frag} {c : Int} {H : Hp} {l b : Addr} {ws zs : List V} {ss us : List Stp} {Q : VK}
theorem do_cut {lo hi : Option Int} (hl : H l = some (.lst ws)) (hs : Steps H ws ss) (ho : ∀ s ∈ ss, s.ok c)
    (k : ∀ p vs us H', H p = none → Same H H' → H' p = some (.lst vs) → Steps H' vs us → us.length ≤ ss.length → (∀ u ∈ us, u.ok c) → Q (.ref p) H') : rSlL K (.ref l) lo hi H Q :=
  ⟨l, ws, rfl, SqL.of hl, fun p hp => let ⟨us, h1, h2, h3⟩ := hs.cut lo hi; k p _ us _ hp (same_upd hp) upd_same (h1.same (same_upd hp)) h2 fun u hu => ho u (h3 u hu)⟩
theorem do_cat (ha : H l = some (.lst ws)) (hs : Steps H ws ss) (hb : H b = some (.lst zs)) (ht : Steps H zs us) (hn : ss.length + us.length ≤ 100)
    (k : ∀ p H', H p = none → Same H H' → H' p = some (.lst (ws ++ zs)) → Steps H' (ws ++ zs) (ss ++ us) → Q (.ref p) H') : rCat (.ref l) (.ref b) H Q :=
  ⟨l, b, ws, zs, rfl, rfl, ha, hb, by rw [hs.length, ht.length, sizeLine_eq]; omega, fun p hp => k p _ hp (same_upd hp) upd_same ((hs.append ht).same (same_upd hp))⟩
theorem do_twice (ha : H l = some (.lst ws)) (hs : Steps H ws ss) (hn : ss.length ≤ 50)
    (k : ∀ p H', Same H H' → H' p = some (.lst (ws ++ ws)) → Steps H' (ws ++ ws) (ss ++ ss) → Q (.ref p) H') : rRep (.ref l) (.int 2) H Q :=
  ⟨l, 2, ws, rfl, rfl, ha, by decide, by decide, by rw [hs.length, sizeLine_eq]; show ss.length * 2 ≤ _; omega, fun p hp => by
    have e : (List.replicate (2 : Int).toNat ws).flatten = ws ++ ws := by
      show ws ++ (ws ++ []) = ws ++ ws
      rw [List.append_nil]
    rw [e]
    exact k p _ (same_upd hp) upd_same ((hs.append hs).same (same_upd hp))⟩
end
theorem lay_ints : ∀ ns : List Int, PyData.canLayAll0 (ns.map PyData.int) = true ∧ PyData.depthAll (ns.map PyData.int) = 0
  | [] => by simp [PyData.canLayAll0, PyData.depthAll]
  | n :: ns => by
    obtain ⟨a, b⟩ := lay_ints ns
    simp [PyData.canLayAll0, PyData.depthAll, PyData.canLay0, PyData.depth, a, b]
theorem shaped_list (ns : List Int) : SeqAt.shaped (.list (ns.map PyData.int)) = true := by
  obtain ⟨a, b⟩ := lay_ints ns
  unfold SeqAt.shaped
  simp [PyData.canLay0, PyData.depth, a, b]
theorem eqv_nil (ns : List Int) : PyData.eqv (.list (ns.map PyData.int)) (.list []) = decide (ns = []) := by
  cases ns <;> simp [PyData.eqv, PyData.eqvAll]
theorem dp_ints {K : PySem.W.Frag} {H : Hp} : ∀ ns : List Int, DpAll K H (ns.map V.int) (ns.map PyData.int)
  | [] => .nil
  | n :: ns => .cons (.int n) (dp_ints ns)
/-- the first of the starts below n -/
def FirstB (c : Int) (a b : List Stp) (n : Nat) : Option Int → Prop
  | none => ∀ x, 0 ≤ x → x < (n : Int) → outF c a x = outF c b x
  | some x => 0 ≤ x ∧ x < (n : Int) ∧ outF c a x ≠ outF c b x ∧ ∀ y, 0 ≤ y → y < x → outF c a y = outF c b y
theorem firstB_no {c : Int} {a b : List Stp} {n : Nat} : ∀ {o : Option Int}, FirstB c a b n o → outF c a (n : Int) = outF c b (n : Int) → FirstB c a b (n + 1) o
  | none, h, e => fun x x0 x1 => by
    by_cases q : x = (n : Int)
    · rw [q]
      exact e
    · exact h x x0 (by omega)
  | some _, ⟨h1, h2, h3, h4⟩, _ => ⟨h1, by omega, h3, h4⟩
theorem firstB_yes {c : Int} {a b : List Stp} {n : Nat} : ∀ {ns : List Int}, FirstB c a b n ns.head? → outF c a (n : Int) ≠ outF c b (n : Int) → FirstB c a b (n + 1) (ns ++ [(n : Int)]).head?
  | [], h, e => ⟨by omega, by omega, e, fun y y0 y1 => h y y0 y1⟩
  | _ :: _, ⟨h1, h2, h3, h4⟩, _ => ⟨h1, by omega, h3, h4⟩
theorem firstB_end {c : Int} {a b : List Stp} (c0 : 0 ≤ c) : ∀ {o : Option Int}, FirstB c a b (c + 1).toNat o → FirstF c a b o
  | none, h => fun x x0 x1 => h x x0 (by omega)
  | some _, ⟨h1, h2, h3, h4⟩ => ⟨h1, by omega, h3, h4⟩
theorem first_swap {c : Int} {a b : List Stp} : ∀ {o : Option Int}, FirstF c a b o → FirstF c b a o
  | none, h => fun x x0 x1 => (h x x0 x1).symm
  | some _, ⟨h1, h2, h3, h4⟩ => ⟨h1, h2, fun e => h3 e.symm, fun y y0 y1 => (h4 y y0 y1).symm⟩
theorem first_same {c : Int} {a b : List Stp} {o o' : Option Int} (h : FirstF c a b o) (h' : FirstF c a b o') : o = o' := first_uniq h (first_swap h')
theorem scal_goal (o o' : Option Int) : scal (goalV o) (goalV o') = true := by
  cases o <;> cases o' <;> rfl
end Cc

namespace Cc
open PySem PySem.Spec PyProof.Rows L2
abbrev sTell : Stmt := top 25
abbrev sFirst : Stmt := top 24
def spTell (C : Addr) : Sp := fun vs H Q _ => ∃ (p q : Addr) (a b : List Stp) (c : Int), vs = [.ref p, .ref q, .int c] ∧ PlanAt C H p a ∧ PlanAt C H q b ∧ 0 ≤ c ∧ c ≤ 1000000000000000000 ∧ (∀ s ∈ a, s.ok c) ∧ (∀ s ∈ b, s.ok c) ∧ a.length ≤ 60 ∧ b.length ≤ 60 ∧
  ∀ (l : Addr) (ns : List Int) (H' : Hp), Same H H' → H' l = some (.lst (ns.map V.int)) → ns.Pairwise (· < ·) → (∀ k, k ∈ ns ↔ TellF c a b k) → Q (.ref l) H'
def spFirst (C : Addr) : Sp := fun vs H Q _ => ∃ (p q : Addr) (a b : List Stp) (c : Int), vs = [.ref p, .ref q, .int c] ∧ PlanAt C H p a ∧ PlanAt C H q b ∧ 0 ≤ c ∧ c ≤ 1000000000000000000 ∧ (∀ s ∈ a, s.ok c) ∧ (∀ s ∈ b, s.ok c) ∧ a.length ≤ 60 ∧ b.length ≤ 60 ∧
  ∀ o H', Same H H' → FirstF c a b o → Q (goalV o) H'
section
variable {P : Program} {w : World} {K : PySem.W.Frag} {mg : Str → Option Value} {base : Heap} {C TU pS gS : Addr} {mc : Value}
abbrev nTell : List Str := ["plan", "other", "chairs", "bounds", "each", "low", "high", "bound", "start"]
theorem scTell : FnScope nTell ["plan", "other", "chairs"] (defScope sTell) := ⟨rfl, rfl, rfl, by decide +kernel, rfl, by decide +kernel, by decide +kernel⟩
def tiPair (K : PySem.W.Frag) : TI := iTup K (tTup (tCons (tVar 7) (tCons (tOp (rI0 fun i j => .int (i + j)) (tVar 7) (tC (.int 1))) tNil)))
def ttFit : TT := tTest (tOp (rI0 fun i j => .bl (decide (i ≤ j))) (tVar 8) (tVar 2))
theorem ok_tell {f f1 : Addr} {fd : FuncData} (F : Fun K "telling_starts" "telling_starts" sTell f fd) (T : Txt K mg C TU pS gS mc) (DT : Dn P w K mg base 4 "summary" f1 (spSummary C)) : FnOk P w K mg base CX0 5 f fd ["plan", "other", "chairs"] (spTell C) := by
  refine F.ok scTell (fun vs H Q E h => ?_) (fun cdv A outer s H vs Q E hr h => ?_)
  · obtain ⟨p, q, a, b, c, rfl, _⟩ := h
    rfl
  · obtain ⟨p, q, a, b, c, rfl, hp, hq, c0, c1, oa, ob, na, nb, k⟩ := h
    refine ⟨_, pss_cons (ps_set (i := 3) scTell.nd rfl (.inl rfl) (pe_lst (pa_cons pe_int pa_nil)))
      (pss_cons (ps_for PassesOwn.never rfl (pi_tup (pe_tup (pa_cons (pv 0) (pa_cons (pv 1) pa_nil)))) (pg_name (i := 4) scTell.nd rfl (.inl rfl))
        (pss_cons (ps_asg (pe_slice sl_tupA (pe_callR DT.ok hr rfl DT.at_ DT.kp pass0 (pa_cons (pv 4) (pa_cons (pv 2) pa_nil))) po_none (po_some pe_int)) (pg_tup rfl (pgs_cons (pg_name (i := 5) scTell.nd rfl (.inl rfl)) (pgs_cons (pg_name (i := 6) scTell.nd rfl (.inl rfl)) pgs_nil))))
        (pss_one (ps_expr (pe_bm PySem.F.plainAttrs_list PySem.F.slot_list_extend PySem.F.type_list_extend mt_extend (pv 3) (pa_cons (pe_lst (pa_cons (pv 5) (pa_cons (pv 6) pa_nil))) pa_nil))))))
      (pss_one (ps_ret (pe_callB (cr_sortedSet rfl) (by rfl) T.b.sorted (by decide +kernel) (pa_cons
        (pe_sc2 (own := [("bound", 7), ("start", 8)]) (vs1 := [8]) (g := gName 7) (g1 := gName 8) (wi1 := tiPair K) (tt1 := ttFit) (te := tVar 8) rfl scTell.nd (pi_list (pv 3)) (blkOk_by (N := nTell) (sc := defScope sTell) (by decide +kernel)) (by decide)
          (fun _ _ _ _ _ => pg_name (i := 7) scTell.nd rfl (.inl rfl))
          (fun _ _ _ _ _ => by exact (pi_tup (pe_tup (pa_cons (pv 7) (pa_cons (pe_op op_add (pv 7) pe_int) pa_nil)))))
          (fun _ _ _ _ _ => pg_name (i := 8) scTell.nd rfl (.inl rfl))
          (fun _ _ _ _ _ => by exact (pts_one (pt_cmpR op_le (pv 8) (pv 2) (nomark _))))
          (fun _ _ _ _ _ => pv 8)) pa_nil))))), ?_⟩
    refine ⟨by show 1 ≤ sizeLine; decide, fun lb hlb => ?_⟩
    refine ⟨_, rfl, _, rfl, by show 2 ≤ sizeLine; decide, fun tt htt => ?_⟩
    have ntb : tt ≠ lb := fun e => by
      rw [e, upd_same] at htt
      cases htt
    have e0 : upd (upd H lb (.lst [.int 0])) tt (.tup [.ref p, .ref q]) lb = some (.lst [.int 0]) := (same_upd htt) _ _ upd_same
    have t0 : upd (upd H lb (.lst [.int 0])) tt (.tup [.ref p, .ref q]) tt = some (.tup [.ref p, .ref q]) := upd_same
    have s0 : Same H (upd (upd H lb (.lst [.int 0])) tt (.tup [.ref p, .ref q])) := (same_upd hlb).trans (same_upd htt)
    generalize upd (upd H lb (.lst [.int 0])) tt (.tup [.ref p, .ref q]) = H0 at *
    have sOf : ∀ H', But lb H0 H' → Same H H' := fun H' b x o e => b x o (ne_of_none e hlb) (s0 x o e)
    refine ⟨tt, rfl, ⟨_, SqT.of t0⟩, for_tup (K := K) (a := tt) (xs := [.ref p, .ref q]) (fun i σ H' => ∃ (x4 x5 x6 : Option V), σ = [some (.ref p), some (.ref q), some (.int c), some (.ref lb), x4, x5, x6, none, none] ∧ But lb H0 H' ∧ H' lb = some (.lst (((boundsF c a b).take (2 * i + 1)).map V.int)))
      ⟨none, none, none, rfl, But.refl _ _, e0⟩ (fun i σ H' _ ⟨_, _, _, _, s1, _⟩ => SqT.of (s1 _ _ ntb t0)) ?_ ?_⟩
    · rintro i v σ H1 hi ⟨x4, x5, x6, rfl, s1, e1⟩
      have hp1 := hp.same (sOf _ s1)
      have hq1 := hq.same (sOf _ s1)
      obtain ⟨r, ss, rfl, hr1, ho, hn, em⟩ : ∃ (r : Addr) (ss : List Stp), v = .ref r ∧ PlanAt C H1 r ss ∧ (∀ s ∈ ss, s.ok c) ∧ ss.length ≤ 60 ∧ (boundsF c a b).take (2 * (i + 1) + 1) = (boundsF c a b).take (2 * i + 1) ++ [(smSteps c ss).low, (smSteps c ss).high] := by
        match i, hi with
        | 0, hi => exact ⟨p, a, (Option.some.inj hi).symm, hp1, oa, na, rfl⟩
        | 1, hi => exact ⟨q, b, (Option.some.inj hi).symm, hq1, ob, nb, rfl⟩
        | i + 2, hi => simp at hi
      have hlen : (((boundsF c a b).take (2 * i + 1)).map V.int).length ≤ 5 := by
        rw [List.length_map, List.length_take]
        exact Nat.min_le_right _ _
      obtain ⟨en1, en2⟩ := smEnd_ends (smSteps c ss)
      refine ⟨_, rfl, _, rfl, r, ss, c, rfl, hr1, c0, c1, ho, hn, fun q2 H2 s2 hq2 => ⟨2, rfl, q2, _, rfl, SqT.of hq2, fun hw => absurd hw.2 (by show ¬ _; simp [smV, HT.sIx]), fun _ t ht => ?_⟩⟩
      have ecut : cutV (smV (smEnd (smSteps c ss))) none (some 2) = [.int (smSteps c ss).low, .int (smSteps c ss).high] := by
        rw [← en1, ← en2]
        rfl
      rw [ecut]
      refine ⟨t, _, rfl, SqT.of upd_same, rfl, _, _, rfl, _, _, rfl, rfl, ?_⟩
      have s3 : Same H1 (upd H2 t (.tup [.int (smSteps c ss).low, .int (smSteps c ss).high])) := s2.trans (same_upd ht)
      generalize upd H2 t (.tup [.int (smSteps c ss).low, .int (smSteps c ss).high]) = H3 at *
      have e3 := s3 _ _ e1
      refine ⟨_, rfl, .inl ⟨rfl, _, SqL.of e3⟩, _, rfl, _, rfl, by show 2 ≤ sizeLine; decide, fun z hz => ⟨lb, z, _, _, rfl, rfl, (same_upd hz) _ _ e3, upd_same, ?_, ?_⟩⟩
      · rw [sizeLine_eq]
        show _ + 2 ≤ _
        omega
      · have nz : lb ≠ z := (ne_of_none e3 hz)
        refine ⟨some (.ref r), some (.int (smSteps c ss).low), some (.int (smSteps c ss).high), rfl, (s1.trans (But.of (s3.trans (same_upd hz)))).trans but_upd, upd_lst ?_⟩
        rw [em, List.map_append]
        rfl
    · rintro σ H1 ⟨x4, x5, x6, rfl, s1, e1⟩
      have e1 : H1 lb = some (.lst ((boundsF c a b).map V.int)) := e1
      refine ⟨_, rfl, lb, rfl, ⟨_, SqL.of e1⟩, fun D hD => ?_⟩
      have nlD : lb ≠ D := ne_of_none e1 hD
      refine walk_list (K := K) (a := lb) (xs := (boundsF c a b).map V.int) (fun i G => But D H1 G ∧ ∃ S n, G D = some (SetO w D S n) ∧ n ≤ 2 * i ∧ ∀ k : Int, S k = true ↔ k ≤ c ∧ ∃ z ∈ (boundsF c a b).take i, k = z ∨ k = z + 1)
        ⟨but_upd, fun _ => false, 0, upd_same, Nat.le_refl _, fun k => by simp⟩ (fun i G ⟨b1, _⟩ => SqL.of (b1 _ _ nlD e1)) ?_ ?_
      · rintro i x G hx ⟨b1, S, n, eS, hn, hS⟩
        rw [List.getElem?_map] at hx
        obtain ⟨z, hz, rfl⟩ : ∃ z, (boundsF c a b)[i]? = some z ∧ x = V.int z := by
          cases e : (boundsF c a b)[i]? with
          | none =>
            rw [e] at hx
            cases hx
          | some z =>
            rw [e] at hx
            exact ⟨z, rfl, (Option.some.inj hx).symm⟩
        have i5 : i < 5 := (List.getElem?_eq_some_iff.mp hz).1
        refine ⟨rfl, _, rfl, _, rfl, _, _, rfl, rfl, by show 2 ≤ sizeLine; decide, fun t ht => ⟨t, rfl, ⟨_, SqT.of upd_same⟩, ?_⟩⟩
        have ntD : t ≠ D := (ne_of_none eS ht).symm
        refine walk_tup (K := K) (a := t) (xs := [.int z, .int (z + 1)]) (fun j G' => But D (upd G t (.tup [.int z, .int (z + 1)])) G' ∧ ∃ S n, G' D = some (SetO w D S n) ∧ n ≤ 2 * i + j ∧ ∀ k : Int, S k = true ↔ k ≤ c ∧ ((∃ z ∈ (boundsF c a b).take i, k = z ∨ k = z + 1) ∨ ∃ m : Nat, m < j ∧ k = z + (m : Int)))
          ⟨But.refl _ _, S, n, (same_upd ht) _ _ eS, by omega, fun k => by rw [hS]; simp⟩ (fun j G' ⟨b2, _⟩ => SqT.of (b2 _ _ ntD upd_same)) ?_ ?_
        · rintro j y G' hy ⟨b2, S', n', eS', hn', hS'⟩
          obtain ⟨j2, rfl⟩ : j < 2 ∧ y = V.int (z + (j : Int)) := by
            match j, hy with
            | 0, hy => exact ⟨by decide, by rw [← Option.some.inj hy]; simp⟩
            | 1, hy => exact ⟨by decide, (Option.some.inj hy).symm⟩
            | j + 2, hy => simp at hy
          refine ⟨rfl, _, rfl, _, rfl, _, _, rfl, rfl, _, rfl, ?_⟩
          by_cases hc : z + (j : Int) ≤ c
          · refine ifT (decide_eq_true hc) ⟨_, rfl, _, S', n', rfl, eS', ?_, ?_⟩
            · show n' + 1 < 4096
              omega
            · refine ⟨b2.trans but_upd, _, _, upd_same, ?_, fun k => ?_⟩
              · split <;> omega
              · rw [Bool.or_eq_true, hS', decide_eq_true_iff]
                constructor
                · rintro (⟨k1, (h | ⟨m, m1, m2⟩)⟩ | h)
                  · exact ⟨k1, .inl h⟩
                  · exact ⟨k1, .inr ⟨m, by omega, m2⟩⟩
                  · exact ⟨by omega, .inr ⟨j, by omega, h⟩⟩
                · rintro ⟨k1, (h | ⟨m, m1, m2⟩)⟩
                  · exact .inl ⟨k1, .inl h⟩
                  · by_cases e : m = j
                    · subst e
                      exact .inr m2
                    · exact .inl ⟨k1, .inr ⟨m, by omega, m2⟩⟩
          · refine ifF (decide_eq_false hc) ⟨b2, S', n', eS', by omega, fun k => ?_⟩
            rw [hS']
            constructor
            · rintro ⟨k1, (h | ⟨m, m1, m2⟩)⟩
              · exact ⟨k1, .inl h⟩
              · exact ⟨k1, .inr ⟨m, by omega, m2⟩⟩
            · rintro ⟨k1, (h | ⟨m, m1, m2⟩)⟩
              · exact ⟨k1, .inl h⟩
              · refine ⟨k1, .inr ⟨m, ?_, m2⟩⟩
                by_cases e : m = j
                · subst e
                  omega
                · omega
        · rintro G' ⟨b2, S', n', eS', hn', hS'⟩
          refine ⟨(b1.trans (But.of (same_upd ht))).trans b2, S', n', eS', hn', fun k => ?_⟩
          rw [hS', take_more hz]
          constructor
          · rintro ⟨k1, (⟨y, y1, y2⟩ | ⟨m, m1, m2⟩)⟩
            · exact ⟨k1, y, List.mem_append_left _ y1, y2⟩
            · exact ⟨k1, z, List.mem_append_right _ List.mem_cons_self, by have : m < 2 := m1; omega⟩
          · rintro ⟨k1, y, y1, y2⟩
            rcases List.mem_append.mp y1 with h | h
            · exact ⟨k1, .inl ⟨y, h, y2⟩⟩
            · rw [List.mem_singleton.mp h] at y2
              rcases y2 with h | h
              · exact ⟨k1, .inr ⟨0, by show 0 < 2; decide, by rw [h]; simp⟩⟩
              · exact ⟨k1, .inr ⟨1, by show 1 < 2; decide, h⟩⟩
      · rintro G ⟨b1, S, n, eS, hn, hS⟩
        refine ⟨D, S, n, rfl, eS, ?_, fun ns l hs hm hl hfree => ?_⟩
        · have : n ≤ 2 * 5 := hn
          omega
        · refine k l ns _ (fun x o e => ?_) upd_same hs fun y => ?_
          · have e' := sOf _ s1 x o e
            exact (same_upd hfree) _ _ (b1 _ _ (ne_of_none e' hD) e')
          · rw [hm, hS]
            exact Iff.rfl
/-- the steps of a plan, for reading -/
theorem PlanAt.tup {H : Hp} {p : Addr} {ss : List Stp} (h : PlanAt C H p ss) : ∃ dx tp ws, H p = some (.ins C dx [("step_tuple", .ref tp)]) ∧ SqT K H tp ws ∧ (∀ H', Same H H' → SqT K H' tp ws) ∧ Steps H ws ss :=
  let ⟨dx, tp, ws, a, b, d⟩ := h
  ⟨dx, tp, ws, a, SqT.of b, fun H' s => SqT.of (s _ _ b), d⟩
theorem scFirst : FnScope ["plan", "other", "chairs", "start"] ["plan", "other", "chairs"] (defScope sFirst) := ⟨rfl, rfl, rfl, by decide +kernel, rfl, by decide +kernel, by decide +kernel⟩
theorem ok_first {f f1 f2 f3 : Addr} {fd fdS : FuncData} (F : Fun K "first_difference" "first_difference" sFirst f fd) (T : Txt K mg C TU pS gS mc) (G : Gs P w K mg base C gS fdS) (DH : Dn P w K mg base 3 "check_house" f1 (spChkHouse C)) (DT : Dn P w K mg base 5 "telling_starts" f2 (spTell C)) (DA : Dn P w K mg base 2 "after_steps" f3 (spASteps K)) :
    FnOk P w K mg base CX0 6 f fd ["plan", "other", "chairs"] (spFirst C) := by
  refine F.ok scFirst (fun vs H Q E h => ?_) (fun cdv A outer s H vs Q E hr h => ?_)
  · obtain ⟨p, q, a, b, c, rfl, _⟩ := h
    rfl
  · obtain ⟨p, q, a, b, c, rfl, hp, hq, c0, c1, oa, ob, na, nb, k⟩ := h
    have r3 : Room 3 _ := hr.mono (by decide)
    have r2 : Room 2 _ := hr.mono (by decide)
    refine ⟨_, pss_cons (ps_expr (pe_callR DH.ok r3 rfl DH.at_ DH.kp pass0 (pa_cons (pv 0) (pa_cons (pv 2) pa_nil))))
      (pss_cons (ps_expr (pe_callR DH.ok r3 rfl DH.at_ DH.kp pass0 (pa_cons (pv 1) (pa_cons (pv 2) pa_nil))))
      (pss_cons (ps_for PassesOwn.never rfl (pi_list (pe_callR DT.ok hr rfl DT.at_ DT.kp pass0 (pa_cons (pv 0) (pa_cons (pv 1) (pa_cons (pv 2) pa_nil))))) (pg_name (i := 3) scFirst.nd rfl (.inl rfl))
        (pss_one (ps_if (pt_cmpR (op_neD hr.units) (pe_callR DA.ok r2 rfl DA.at_ DA.kp pass0 (pa_cons (pe_prop (pv 0) T.cl T.pr G.ok r2 G.b .nil pass0 rfl) (pa_cons (pv 2) (pa_cons (pv 3) pa_nil))))
            (pe_callR DA.ok r2 rfl DA.at_ DA.kp pass0 (pa_cons (pe_prop (pv 1) T.cl T.pr G.ok r2 G.b .nil pass0 rfl) (pa_cons (pv 2) (pa_cons (pv 3) pa_nil)))) (nomark _))
          (pss_one (ps_ret (pv 3))) pss_nil)))
      (pss_one (ps_ret pe_non)))), ?_⟩
    refine ⟨_, rfl, _, rfl, p, c, a, rfl, hp, c0, c1, oa, na, fun H1 s1 => ?_⟩
    refine ⟨_, rfl, _, rfl, q, c, b, rfl, hq.same s1, c0, c1, ob, nb, fun H2 s2 => ?_⟩
    have s02 := s1.trans s2
    refine ⟨_, rfl, _, rfl, _, rfl, p, q, a, b, c, rfl, hp.same s02, hq.same s02, c0, c1, oa, ob, na, nb, fun l ns H3 s3 hl hs hm => ?_⟩
    have s03 := s02.trans s3
    refine ⟨l, rfl, ⟨_, SqL.of hl⟩, for_list (K := K) (a := l) (xs := ns.map V.int) (fun i σ H' => ∃ (x : Option V), σ = [some (.ref p), some (.ref q), some (.int c), x] ∧ Same H3 H' ∧ ∀ y ∈ ns.take i, 0 ≤ y → outF c a y = outF c b y)
      ⟨none, rfl, Same.refl _, fun y hy => by simp at hy⟩ (fun i σ H' _ ⟨_, _, s4, _⟩ => SqL.of (s4 _ _ hl)) ?_ ?_⟩
    · rintro i v σ H4 hi ⟨x, rfl, s4, hx⟩
      rw [List.getElem?_map] at hi
      obtain ⟨z, hz, rfl⟩ : ∃ z, ns[i]? = some z ∧ v = V.int z := by
        cases e : ns[i]? with
        | none =>
          rw [e] at hi
          cases hi
        | some z =>
          rw [e] at hi
          exact ⟨z, rfl, (Option.some.inj hi).symm⟩
      have s04 := s03.trans s4
      obtain ⟨dx, tp, ws, e1, e2, e2', e3⟩ := (hp.same s04).tup (K := K)
      refine ⟨_, rfl, p, dx, _, rfl, e1, p, dx, _, _, rfl, e1, lk_self, _, rfl, _, rfl, tp, ws, a, c, z, rfl, e2, e2', e3, fun q1 H5 s5 h5 => ?_⟩
      obtain ⟨dy, tq, zs, g1, g2, g2', g3⟩ := ((hq.same s04).same s5).tup (K := K)
      refine ⟨_, rfl, q, dy, _, rfl, g1, q, dy, _, _, rfl, g1, lk_self, _, rfl, _, rfl, tq, zs, b, c, z, rfl, g2, g2', g3, fun q2 H6 s6 h6 => ?_⟩
      refine ⟨.tuple [.int (outF c a z).1, .int (outF c a z).2], .tuple [.int (outF c b z).1, .int (outF c b z).2], .tup (SqT.of (s6 _ _ h5)) (.cons (.int _) (.cons (.int _) .nil)), .tup (SqT.of h6) (.cons (.int _) (.cons (.int _) .nil)), shaped_ints _ _, shaped_ints _ _, _, rfl, ?_⟩
      rw [eqv_ints]
      by_cases hd : outF c a z = outF c b z
      · rw [decide_eq_true hd]
        refine iteF ⟨_, rfl, (s4.trans s5).trans s6, fun y hy y0 => ?_⟩
        rw [take_more hz] at hy
        rcases List.mem_append.mp hy with h | h
        · exact hx y h y0
        · rw [List.mem_singleton.mp h]
          exact hd
      · rw [decide_eq_false hd]
        have hT := (hm z).mp (List.mem_of_getElem? hz)
        have z0 : 0 ≤ z := by
          obtain ⟨_, y, hy, hzy⟩ := hT
          have la := (smSteps_says (Int.le_refl 0) c0 a oa).1
          have lb := (smSteps_says (Int.le_refl 0) c0 b ob).1
          have l1 := la.l0
          have l2 := la.lh
          have l3 := lb.l0
          have l4 := lb.lh
          simp only [boundsF, List.mem_cons, List.not_mem_nil, or_false] at hy
          omega
        refine iteT ⟨_, rfl, ?_⟩
        exact k (some z) _ (s04.trans (s5.trans s6)) (first_some oa ob z0 hT.1 hd fun y y0 y1 hy => hx y (mem_before hs hz ((hm y).mpr hy) y1) y0)
    · rintro σ H4 ⟨x, rfl, s4, hx⟩
      rw [List.length_map, List.take_length] at hx
      exact k none _ (s03.trans s4) (first_none oa ob fun y y0 y1 hy => hx y ((hm y).mpr hy) y0)
end
end Cc

namespace Cc
open PySem PySem.Spec PyProof.Rows L2
abbrev sOther : Stmt := top 33
abbrev sDiffer : Stmt := top 34
def spOther (K : PySem.W.Frag) : Sp := fun vs H Q _ => ∃ (s l : Addr) (ws : List V) (ss : List Stp) (c : Int), vs = [.ref s, .ref l, .int c] ∧ DrawAt K H s ∧ H l = some (.lst ws) ∧ l ≠ s ∧ Steps H ws ss ∧ ss.length ≤ 6 ∧ (∀ s ∈ ss, s.ok c) ∧ 0 ≤ c ∧ c ≤ 1000000000000000000 ∧
  ∀ (l2 : Addr) (vs : List V) (us : List Stp) (H' : Hp), l2 ≠ s → H' l2 = some (.lst vs) → Steps H' vs us → us.length ≤ 60 → (∀ u ∈ us, u.ok c) → DrawAt K H' s → But s H H' → Q (.ref l2) H'
def spDiffer : Sp := fun vs H Q _ => ∃ (l l2 : Addr) (ws vs' : List V) (a b : List Stp) (c x : Int), vs = [.ref l, .ref l2, .int c, .int x] ∧ H l = some (.lst ws) ∧ H l2 = some (.lst vs') ∧ Steps H ws a ∧ Steps H vs' b ∧ a.length ≤ 60 ∧ b.length ≤ 60 ∧
  ∀ H', Same H H' → Q (.bl (!decide (outF c a x = outF c b x))) H'
section
variable {P : Program} {w : World} {K : PySem.W.Frag} {mg : Str → Option Value} {base : Heap}
theorem scOther : FnScope ["_law_state", "_law_steps", "_law_high", "_law_branch", "_law_at"] ["_law_state", "_law_steps", "_law_high"] (defScope sOther) := ⟨rfl, rfl, rfl, by decide +kernel, rfl, by decide +kernel, by decide +kernel⟩
theorem ok_other {f f1 f2 : Addr} {fd : FuncData} (F : Fun K "_law_other" "_law_other" sOther f fd) (B : Bt mg) (DD : Dn P w K mg base 1 "_law_drawn" f1 (spDrawn K)) (DR : Dn P w K mg base 2 "_law_random_steps" f2 (spRnd K)) :
    FnOk P w K mg base CX0 3 f fd ["_law_state", "_law_steps", "_law_high"] (spOther K) := by
  refine F.ok scOther (fun vs H Q E h => ?_) (fun cdv A outer s H vs Q E hr h => ?_)
  · obtain ⟨s, l, ws, ss, c, rfl, _⟩ := h
    rfl
  · obtain ⟨st, l, ws, ss, c, rfl, D0, hl, nl, hs, hn, ho, c0, c1, k⟩ := h
    have r1 : Room 1 _ := hr.mono (by decide)
    have r2 : Room 2 _ := hr.mono (by decide)
    refine ⟨_, pss_cons (ps_par (i := 3) (j := 4) rfl scOther.nd rfl rfl (by decide) rfl rfl (pa_cons (pe_callR DD.ok r1 rfl DD.at_ DD.kp pass0 (pa_cons (pv 0) (pa_cons pe_int pa_nil)))
        (pa_cons (pe_callR DD.ok r1 rfl DD.at_ DD.kp pass0 (pa_cons (pv 0) (pa_cons (pe_op op_add (pe_callB call_len_seq (by rfl) B.len PySem.boot_len (pa_cons (pv 1) pa_nil)) pe_int) pa_nil))) pa_nil)) (by rfl))
      (pss_cons (ps_if (pt_cmpR op_eq (pv 3) pe_int (nomark _)) (pss_one (ps_ret (pe_op op_cat (pe_op op_cat (pe_slice sl_list (pv 1) po_none (po_some (pv 4))) (pe_lst (pa_cons (pe_tup (pa_cons pe_str pa_nil)) (pa_cons (pe_tup (pa_cons pe_str pa_nil)) pa_nil)))) (pe_slice sl_list (pv 1) (po_some (pv 4)) po_none)))) pss_nil)
      (pss_cons (ps_if (pt_cmpR op_eq (pv 3) pe_int (nomark _)) (pss_one (ps_ret (pe_op op_cat (pe_op op_cat (pe_slice sl_list (pv 1) po_none (po_some (pv 4))) (pe_op op_rep (pe_slice sl_list (pv 1) (po_some (pv 4)) (po_some (pe_op op_add (pv 4) pe_int))) pe_int)) (pe_slice sl_list (pv 1) (po_some (pe_op op_add (pv 4) pe_int)) po_none)))) pss_nil)
      (pss_cons (ps_if (pt_cmpR op_eq (pv 3) pe_int (nomark _)) (pss_one (ps_ret (pe_op op_cat (pe_op op_cat (pe_slice sl_list (pv 1) po_none (po_some (pv 4)))
          (pe_lst (pa_cons (pe_tup (pa_cons (pe_ix ix_list (pe_lst (pa_cons pe_str (pa_cons pe_str pa_nil))) (pe_callR DD.ok r1 rfl DD.at_ DD.kp pass0 (pa_cons (pv 0) (pa_cons pe_int pa_nil))) (fun _ _ => rfl)) (pa_cons (pe_callR DD.ok r1 rfl DD.at_ DD.kp pass0 (pa_cons (pv 0) (pa_cons (pe_op op_add (pv 2) pe_int) pa_nil))) pa_nil))) pa_nil)))
          (pe_slice sl_list (pv 1) (po_some (pv 4)) po_none)))) pss_nil)
      (pss_cons (ps_if (pt_cmpR op_eq (pv 3) pe_int (nomark _)) (pss_one (ps_ret (pe_op op_cat (pe_slice sl_list (pv 1) po_none (po_some (pv 4))) (pe_slice sl_list (pv 1) (po_some (pe_op op_add (pv 4) pe_int)) po_none)))) pss_nil)
      (pss_one (ps_ret (pe_ifExp (pt_cmpR op_eq (pv 3) pe_int (nomark _)) (pe_callR DR.ok r2 rfl DR.at_ DR.kp pass0 (pa_cons (pv 0) (pa_cons pe_int (pa_cons (pv 2) pa_nil)))) (pv 1)))))))), ?_⟩
    refine ⟨_, rfl, st, 6, rfl, D0, by decide, by decide, fun br H1 b0 b1 D1 t1 => ?_⟩
    have hl1 := t1 _ _ nl hl
    have hs1 := hs.but t1 D0.lst
    refine ⟨_, rfl, _, rfl, l, ws, rfl, .inl (SqL.of hl1), _, _, rfl, rfl, st, _, rfl, D1, by omega, by rw [hs.length]; omega, fun at_ H2 a0 a1 D2 t2 => ⟨_, _, rfl, ?_⟩⟩
    have hl2 := t2 _ _ nl hl1
    have hs2 := hs1.but t2 D1.lst
    have t02 := t1.trans t2
    -- what is answered: a new list
    have fin : ∀ (m : Addr) (vs : List V) (us : List Stp) (H3 H4 : Hp), DrawAt K H3 st → But st H H3 → H3 m = none → Same H3 H4 → H4 m = some (.lst vs) → Steps H4 vs us → us.length ≤ 60 → (∀ u ∈ us, u.ok c) → Q (.ref m) H4 := fun m vs us H3 H4 D3 b3 hm s34 e4 g4 n4 o4 =>
      k m vs us H4 (let ⟨_, e⟩ := D3.lst; (ne_of_none e hm).symm) e4 g4 n4 o4 (D3.same s34) (b3.trans (But.of s34))
    have okA : ∀ {x y : List Stp}, (∀ u ∈ x, u.ok c) → (∀ u ∈ y, u.ok c) → ∀ u ∈ x ++ y, u.ok c := fun hx hy u hu => (List.mem_append.mp hu).elim (hx u) (hy u)
    refine ⟨_, rfl, rfl, _, rfl, ?_⟩
    by_cases q0 : V.int br = V.int 0
    · refine ifT (decide_eq_true q0) ⟨_, rfl, _, rfl, _, rfl, do_cut hl2 hs2 ho fun p1 v1 u1 H3 hp1 s3 e3 g3 n3 o3 => ⟨by show 1 ≤ sizeLine; decide, fun ta hta => ⟨by show 1 ≤ sizeLine; decide, fun tb htb => ⟨by show 2 ≤ sizeLine; decide, fun p2 hp2 => ?_⟩⟩⟩⟩
      have s4 := ((same_upd (o := .tup [.str "turn"]) hta).trans (same_upd (o := .tup [.str "turn"]) htb)).trans (same_upd (o := .lst [.ref ta, .ref tb]) hp2)
      have g4 : Steps (upd (upd (upd H3 ta (.tup [.str "turn"])) tb (.tup [.str "turn"])) p2 (.lst [.ref ta, .ref tb])) [.ref ta, .ref tb] [.turn, .turn] :=
        .cons ⟨ta, rfl, (same_upd hp2) _ _ ((same_upd htb) _ _ upd_same)⟩ (.cons ⟨tb, rfl, (same_upd hp2) _ _ upd_same⟩ .nil)
      refine do_cat (s4 _ _ e3) (g3.same s4) upd_same g4 (by show u1.length + 2 ≤ 100; omega) fun p3 H5 hp3 s5 e5 g5 => ?_
      have s25 := (s3.trans s4).trans s5
      refine ⟨_, rfl, _, rfl, _, rfl, ?_⟩
      dsimp only [tNoPart]
      refine do_cut (s25 _ _ hl2) (hs2.same s25) ho fun p4 v4 u4 H6 hp4 s6 e6 g6 n6 o6 => ?_
      refine do_cat (s6 _ _ e5) (g5.same s6) e6 g6 (by rw [List.length_append]; show u1.length + 2 + u4.length ≤ 100; omega) fun p5 H7 hp5 s7 e7 g7 => ?_
      exact fin p5 _ _ _ _ (D2.same (s25.trans s6)) (t02.trans (But.of (s25.trans s6))) hp5 s7 e7 g7 (by rw [List.length_append, List.length_append]; show u1.length + 2 + u4.length ≤ 60; omega) (okA (okA o3 fun u hu => by
        have : u = .turn := by simpa using hu
        subst this
        trivial) o6)
    · refine ifF (decide_eq_false q0) ⟨_, rfl, rfl, _, rfl, ?_⟩
      by_cases q1 : V.int br = V.int 1
      · refine ifT (decide_eq_true q1) ⟨_, rfl, _, rfl, _, rfl, do_cut hl2 hs2 ho fun p1 v1 u1 H3 hp1 s3 e3 g3 n3 o3 => ?_⟩
        refine ⟨_, rfl, _, rfl, _, rfl, _, rfl, _, _, rfl, rfl, _, rfl, do_cut (s3 _ _ hl2) (hs2.same s3) ho fun p2 v2 u2 H4 hp2 s4 e4 g4 n4 o4 => ?_⟩
        dsimp only [tC]
        refine do_twice e4 g4 (by omega) fun p3 H5 s5 e5 g5 => ?_
        have s35 := s4.trans s5
        refine do_cat (s35 _ _ e3) (g3.same s35) e5 g5 (by rw [List.length_append]; omega) fun p4 H6 hp4 s6 e6 g6 => ?_
        have s26 := (s3.trans s35).trans s6
        refine ⟨_, rfl, _, rfl, _, _, rfl, rfl, _, rfl, ?_⟩
        dsimp only [tNoPart]
        refine do_cut (s26 _ _ hl2) (hs2.same s26) ho fun p5 v5 u5 H7 hp5 s7 e7 g7 n7 o7 => ?_
        refine do_cat (s7 _ _ e6) (g6.same s7) e7 g7 (by rw [List.length_append, List.length_append]; omega) fun p6 H8 hp6 s8 e8 g8 => ?_
        exact fin p6 _ _ _ _ (D2.same (s26.trans s7)) (t02.trans (But.of (s26.trans s7))) hp6 s8 e8 g8 (by rw [List.length_append, List.length_append, List.length_append]; omega) (okA (okA o3 (okA o4 o4)) o7)
      · refine ifF (decide_eq_false q1) ⟨_, rfl, rfl, _, rfl, ?_⟩
        by_cases q2 : V.int br = V.int 2
        · refine ifT (decide_eq_true q2) ⟨_, rfl, _, rfl, _, rfl, do_cut hl2 hs2 ho fun p1 v1 u1 H3 hp1 s3 e3 g3 n3 o3 => ?_⟩
          have D3 := D2.same s3
          refine ⟨by show 2 ≤ sizeLine; decide, fun lc hlc => ?_⟩
          have ncs : lc ≠ st := let ⟨_, e⟩ := D3.lst; (ne_of_none e hlc).symm
          have s4 : Same H3 (upd H3 lc (.lst [.str "red", .str "blue"])) := same_upd hlc
          refine ⟨_, rfl, st, 2, rfl, D3.same s4, by decide, by decide, fun rr H5 rr0 rr1 D5 b5 => ?_⟩
          obtain ⟨bb, hbb⟩ : ∃ bb, atI [V.str "red", V.str "blue"] rr = some (V.str (roomS bb)) := by
            have : rr = ((0 : Nat) : Int) ∨ rr = ((1 : Nat) : Int) := by omega
            rcases this with z | z
            · exact ⟨true, at_of z rfl⟩
            · exact ⟨false, at_of z rfl⟩
          refine ⟨lc, _, _, _, rfl, rfl, SqL.of (b5 _ _ ncs upd_same), hbb, _, rfl, _, rfl, _, _, rfl, rfl, st, c + 1, rfl, D5, by omega, by omega, fun nd H6 nd0 nd1 D6 b6 => ?_⟩
          refine ⟨by show 2 ≤ sizeLine; decide, fun tq htq => ⟨by show 1 ≤ sizeLine; decide, fun p2 hp2 => ?_⟩⟩
          have s7 := (same_upd (o := .tup [.str (roomS bb), .int nd]) htq).trans (same_upd (o := .lst [.ref tq]) hp2)
          have g7 : Steps (upd (upd H6 tq (.tup [.str (roomS bb), .int nd])) p2 (.lst [.ref tq])) [.ref tq] [.meet bb nd] := .cons ⟨tq, rfl, (same_upd hp2) _ _ upd_same⟩ .nil
          have b36 : But st H3 H6 := ((But.of s4).trans b5).trans b6
          have np1 : p1 ≠ st := let ⟨_, e⟩ := D2.lst; (ne_of_none e hp1).symm
          have e6 := b36 _ _ np1 e3
          have g6 := g3.but b36 D3.lst
          refine do_cat (s7 _ _ e6) (g6.same s7) upd_same g7 (by show u1.length + 1 ≤ 100; omega) fun p3 H8 hp3 s8 e8 g8 => ?_
          have s68 := s7.trans s8
          have b28 : But st H2 H8 := ((But.of s3).trans b36).trans (But.of s68)
          refine ⟨_, rfl, _, rfl, _, rfl, ?_⟩
          dsimp only [tNoPart]
          refine do_cut (b28 _ _ nl hl2) (hs2.but b28 D2.lst) ho fun p5 v5 u5 H9 hp5 s9 e9 g9 n9 o9 => ?_
          refine do_cat (s9 _ _ e8) (g8.same s9) e9 g9 (by rw [List.length_append]; show u1.length + 1 + u5.length ≤ 100; omega) fun p6 H10 hp6 s10 e10 g10 => ?_
          exact fin p6 _ _ _ _ (D6.same (s68.trans s9)) (t02.trans (b28.trans (But.of s9))) hp6 s10 e10 g10 (by rw [List.length_append, List.length_append]; show u1.length + 1 + u5.length ≤ 60; omega) (okA (okA o3 fun u hu => by
            rw [List.mem_singleton.mp hu]
            exact ⟨nd0, by omega⟩) o9)
        · refine ifF (decide_eq_false q2) ⟨_, rfl, rfl, _, rfl, ?_⟩
          by_cases q3 : V.int br = V.int 3
          · refine ifT (decide_eq_true q3) ⟨_, rfl, _, rfl, _, rfl, do_cut hl2 hs2 ho fun p1 v1 u1 H3 hp1 s3 e3 g3 n3 o3 => ?_⟩
            refine ⟨_, rfl, _, rfl, _, _, rfl, rfl, _, rfl, ?_⟩
            dsimp only [tNoPart]
            refine do_cut (s3 _ _ hl2) (hs2.same s3) ho fun p5 v5 u5 H7 hp5 s7 e7 g7 n7 o7 => ?_
            refine do_cat (s7 _ _ e3) (g3.same s7) e7 g7 (by omega) fun p6 H8 hp6 s8 e8 g8 => ?_
            exact fin p6 _ _ _ _ (D2.same (s3.trans s7)) (t02.trans (But.of (s3.trans s7))) hp6 s8 e8 g8 (by rw [List.length_append]; omega) (okA o3 o7)
          · refine ifF (decide_eq_false q3) ⟨_, rfl, rfl, _, rfl, ?_⟩
            by_cases q4 : V.int br = V.int 4
            · refine ifT (decide_eq_true q4) ⟨_, rfl, _, rfl, st, 5, c, rfl, D2, by decide, by decide, c0, c1, fun m vs us H3 hm e3 g3 n3 o3 D3 b3 => ?_⟩
              exact k m vs us H3 (let ⟨_, e⟩ := D2.lst; (ne_of_none e hm).symm) e3 g3 (by omega) o3 D3 (t02.trans b3)
            · refine ifF (decide_eq_false q4) ⟨_, rfl, ?_⟩
              exact k l ws ss H2 nl hl2 hs2 (by omega) ho D2 t02
theorem scDiffer : FnScope ["_law_one", "_law_other_here", "_law_chairs", "_law_start_here", "_law_first", "_law_second"] ["_law_one", "_law_other_here", "_law_chairs", "_law_start_here"] (defScope sDiffer) := ⟨rfl, rfl, rfl, by decide +kernel, rfl, by decide +kernel, by decide +kernel⟩
theorem ok_differ {f f1 : Addr} {fd : FuncData} (F : Fun K "_law_differ" "_law_differ" sDiffer f fd) (B : Bt mg) (DP : Dn P w K mg base 1 "_law_played" f1 spPlayed) : FnOk P w K mg base CX0 2 f fd ["_law_one", "_law_other_here", "_law_chairs", "_law_start_here"] spDiffer := by
  refine F.ok scDiffer (fun vs H Q E h => ?_) (fun cdv A outer s H vs Q E hr h => ?_)
  · obtain ⟨l, l2, ws, vs', a, b, c, x, rfl, _⟩ := h
    rfl
  · obtain ⟨l, l2, ws, vs', a, b, c, x, rfl, hl, hl2, ha, hb, na, nb, k⟩ := h
    refine ⟨_, pss_cons (ps_par (i := 4) (j := 5) rfl scDiffer.nd rfl rfl (by decide) rfl rfl (pa_cons (pe_callR DP.ok hr rfl DP.at_ DP.kp pass0 (pa_cons (pv 0) (pa_cons (pv 2) (pa_cons (pv 3) pa_nil))))
        (pa_cons (pe_callR DP.ok hr rfl DP.at_ DP.kp pass0 (pa_cons (pv 1) (pa_cons (pv 2) (pa_cons (pv 3) pa_nil)))) pa_nil)) (by rfl))
      (pss_one (ps_ret (pe_cmpR (op_neD hr.units) (pe_tup (pa_cons (pe_callB (cr_sum rfl) (by rfl) B.sum (by decide +kernel) (pa_cons (pe_ix ix_tup (pv 4) pe_int (fun _ _ => rfl)) pa_nil)) (pa_cons (pe_ix ix_tup (pv 4) pe_int (fun _ _ => rfl)) pa_nil)))
        (pe_tup (pa_cons (pe_callB (cr_sum rfl) (by rfl) B.sum (by decide +kernel) (pa_cons (pe_ix ix_tup (pv 5) pe_int (fun _ _ => rfl)) pa_nil)) (pa_cons (pe_ix ix_tup (pv 5) pe_int (fun _ _ => rfl)) pa_nil))) (nomark _)))), ?_⟩
    refine ⟨_, rfl, _, rfl, _, rfl, l, ws, a, c, x, rfl, hl, ha, by omega, fun p1 q1 H1 f1 s1 e1 g1 => ?_⟩
    refine ⟨_, rfl, _, rfl, _, rfl, l2, vs', b, c, x, rfl, s1 _ _ hl2, hb.same s1, by omega, fun p2 q2 H2 f2 s2 e2 g2 => ⟨_, _, rfl, ?_⟩⟩
    have e1' := s2 _ _ e1
    have g1' := s2 _ _ g1
    refine ⟨_, rfl, p1, _, _, _, rfl, rfl, SqT.of e1', at_of (j := 0) rfl rfl, q1, _, rfl, SqL.of g1', ?_⟩
    refine ⟨_, rfl, p1, _, _, _, rfl, rfl, SqT.of e1', at_of (j := 1) rfl rfl, by show 2 ≤ sizeLine; decide, fun t1 ht1 => ?_⟩
    have s3 := same_upd (o := .tup [.int (carryF c a x).sum, .int (stepsF c a (x, 0)).1]) ht1
    refine ⟨_, rfl, p2, _, _, _, rfl, rfl, SqT.of (s3 _ _ e2), at_of (j := 0) rfl rfl, q2, _, rfl, SqL.of (s3 _ _ g2), ?_⟩
    refine ⟨_, rfl, p2, _, _, _, rfl, rfl, SqT.of (s3 _ _ e2), at_of (j := 1) rfl rfl, by show 2 ≤ sizeLine; decide, fun t2 ht2 => ?_⟩
    have s4 := same_upd (o := .tup [.int (carryF c b x).sum, .int (stepsF c b (x, 0)).1]) ht2
    refine ⟨.tuple [.int (carryF c a x).sum, .int (stepsF c a (x, 0)).1], .tuple [.int (carryF c b x).sum, .int (stepsF c b (x, 0)).1], .tup (SqT.of (s4 _ _ upd_same)) (.cons (.int _) (.cons (.int _) .nil)), .tup (SqT.of upd_same) (.cons (.int _) (.cons (.int _) .nil)), shaped_ints _ _, shaped_ints _ _, ?_⟩
    rw [eqv_ints]
    have e : decide (((carryF c a x).sum, (stepsF c a (x, 0)).1) = ((carryF c b x).sum, (stepsF c b (x, 0)).1)) = decide (outF c a x = outF c b x) := by
      rw [carryF_sum, carryF_sum]
      show decide _ = decide (stepsF c a (x, 0) = stepsF c b (x, 0))
      generalize stepsF c a (x, 0) = u
      generalize stepsF c b (x, 0) = v
      obtain ⟨u1, u2⟩ := u
      obtain ⟨v1, v2⟩ := v
      simp only [Prod.mk.injEq]
      rw [Bool.decide_and, Bool.decide_and, Bool.and_comm]
    rw [e]
    exact k _ (((s1.trans s2).trans s3).trans s4)
end
end Cc

namespace Cc
open PySem PySem.Spec PyProof.Rows L2
abbrev sLaw : Stmt := top 35
def spLaw (K : PySem.W.Frag) : Sp := fun vs H Q _ => ∃ (a : Addr) (ns : List Int), vs = [.ref a] ∧ SqF K H a (ns.map V.int) ∧ ns.length ≤ 63 ∧ ∀ H', Q (.bl true) H'
section
variable {P : Program} {w : World} {K : PySem.W.Frag} {mg : Str → Option Value} {base : Heap} {C TU pS gS : Addr} {mc : Value}
abbrev nLaw : List Str := ["_law_script", "_law_state", "_law_turn", "_law_high", "_law_one", "_law_other_here", "_law_found", "_law_differing", "_law_limit", "_law_starts", "_law_start_here", "_law_k"]
def ttDiff : TT := tB (fun σ H Q => tCons (tVar 4) (tCons (tVar 5) (tCons (tVar 3) (tCons (tVar 10) tNil))) σ H fun vs H1 => spDiffer vs H1 Q E0)
def teDraw (K : PySem.W.Frag) : TE := fun σ H Q => tCons (tVar 1) (tCons (tVar 8) tNil) σ H fun vs H1 => spDrawn K vs H1 Q E0
theorem scLaw : FnScope nLaw ["_law_script"] (defScope sLaw) := ⟨rfl, rfl, rfl, by decide +kernel, rfl, by decide +kernel, by decide +kernel⟩
theorem ok_law {f f1 f2 f3 f4 f5 f6 f7 : Addr} {fd : FuncData} (F : Fun K "law" "law" sLaw f fd) (B : Bt mg) (DS : Dn P w K mg base 1 "_law_start" f1 (spStart K)) (DD : Dn P w K mg base 1 "_law_drawn" f2 (spDrawn K)) (DR : Dn P w K mg base 2 "_law_random_steps" f3 (spRnd K))
    (DP : Dn P w K mg base 6 "_law_plan" f4 (spLPlan C)) (DO : Dn P w K mg base 3 "_law_other" f5 (spOther K)) (DF : Dn P w K mg base 6 "first_difference" f6 (spFirst C)) (DI : Dn P w K mg base 2 "_law_differ" f7 spDiffer) : FnOk P w K mg base CX0 7 f fd ["_law_script"] (spLaw K) := by
  refine F.ok scLaw (fun vs H Q E h => ?_) (fun cdv A outer s H vs Q E hr h => ?_)
  · obtain ⟨a, ns, rfl, _⟩ := h
    rfl
  · obtain ⟨a, ns, rfl, hF, hlen, k⟩ := h
    have r1 : Room 1 _ := hr.mono (by decide)
    have r2 : Room 2 _ := hr.mono (by decide)
    have r3 : Room 3 _ := hr.mono (by decide)
    refine ⟨_, pss_cons (ps_set (i := 1) scLaw.nd rfl (.inr rfl) (pe_callR DS.ok r1 rfl DS.at_ DS.kp pass0 (pa_cons (pv 0) pa_nil)))
      (pss_cons (ps_for PassesOwn.never rfl (pi_range1 rfl B.range (pa_cons pe_int pa_nil)) (pg_name (i := 2) scLaw.nd rfl (.inl rfl))
        (pss_cons (ps_set (i := 3) scLaw.nd rfl (.inr rfl) (pe_ix ix_list (pe_lst (pa_cons (pe_callR DD.ok r1 rfl DD.at_ DD.kp pass0 (pa_cons (pv 1) (pa_cons pe_int pa_nil))) (pa_cons (pe_op op_pow pe_int pe_int) pa_nil)))
          (pe_op op_fdiv (pe_callR DD.ok r1 rfl DD.at_ DD.kp pass0 (pa_cons (pv 1) (pa_cons pe_int pa_nil))) pe_int) (fun _ _ => rfl)))
        (pss_cons (ps_set (i := 4) scLaw.nd rfl (.inr rfl) (pe_callR DR.ok r2 rfl DR.at_ DR.kp pass0 (pa_cons (pv 1) (pa_cons pe_int (pa_cons (pv 3) pa_nil)))))
        (pss_cons (ps_set (i := 5) scLaw.nd rfl (.inr rfl) (pe_callR DO.ok r3 rfl DO.at_ DO.kp pass0 (pa_cons (pv 1) (pa_cons (pv 4) (pa_cons (pv 3) pa_nil)))))
        (pss_cons (ps_set (i := 6) scLaw.nd rfl (.inl rfl) (pe_callR DF.ok hr rfl DF.at_ DF.kp pass0 (pa_cons (pe_callR DP.ok hr rfl DP.at_ DP.kp pass0 (pa_cons (pv 4) pa_nil)) (pa_cons (pe_callR DP.ok hr rfl DP.at_ DP.kp pass0 (pa_cons (pv 5) pa_nil)) (pa_cons (pv 3) pa_nil)))))
        (pss_cons (ps_if (pt_cmpR op_lt (pv 3) pe_int (nomark _))
          (pss_cons (ps_setLc (i := 7) (own := [("_law_start_here", 10)]) (g := gName 10) (tt := ttDiff) (te := tVar 10) rfl scLaw.nd rfl rfl (sw_true rfl rfl rfl (by decide +kernel)) (pi_range1 rfl B.range (pa_cons (pe_op op_add (pv 3) pe_int) pa_nil)) (blkOk_by (N := nLaw) (sc := defScope sLaw) (by decide +kernel))
              (fun _ _ _ _ _ => pg_name (i := 10) scLaw.nd rfl (.inl rfl)) (fun _ _ _ _ _ => by exact (pts_one (pt_val (pe_callR DI.ok r2 rfl DI.at_ DI.kp pass0 (pa_cons (pv 4) (pa_cons (pv 5) (pa_cons (pv 3) (pa_cons (pv 10) pa_nil)))))))) (fun _ _ _ _ _ => pv 10))
          (pss_one (ps_if (pt_cmpR op_ne (pv 6) (pe_ifExp (pt_cmpR (op_neD hr.units) (pv 7) (pe_lst pa_nil) (nomark _)) (pe_ix ix_list (pv 7) pe_int (fun _ _ => rfl)) pe_non) (nomark _)) (pss_one (ps_ret pe_bl)) pss_nil)))
          (pss_cons (ps_set (i := 8) scLaw.nd rfl (.inr rfl) (pe_ifExp (pt_cmpR op_isN (pv 6) pe_non (nomark _)) (pe_op op_add (pv 3) pe_int) (pv 6)))
          (pss_cons (ps_if (PW.pt (pw_and (pt_cmpR op_notN (pv 6) pe_non (nomark _)) (pw_and1 (pt_not (pt_val (pe_callR DI.ok r2 rfl DI.at_ DI.kp pass0 (pa_cons (pv 4) (pa_cons (pv 5) (pa_cons (pv 3) (pa_cons (pv 6) pa_nil)))))))))) (pss_one (ps_ret pe_bl)) pss_nil)
          (pss_cons (ps_set (i := 9) scLaw.nd rfl (.inl rfl) (pe_ifExp (pt_cmpR op_gt (pv 8) pe_int (nomark _))
            (pe_op op_cat (pe_lc (own := [("_law_k", 11)]) (g := gName 11) (tt := tYes) (te := teDraw K) rfl scLaw.nd (pi_range1 rfl B.range (pa_cons pe_int pa_nil)) (blkOk_by (N := nLaw) (sc := defScope sLaw) (by decide +kernel))
              (fun _ _ _ _ _ => pg_name (i := 11) scLaw.nd rfl (.inl rfl)) (fun _ _ _ _ _ => pts_nil) (fun _ _ _ _ _ => by exact (pe_callR DD.ok r1 rfl DD.at_ DD.kp pass0 (pa_cons (pv 1) (pa_cons (pv 8) pa_nil)))))
              (pe_lst (pa_cons (pe_op op_sub (pv 8) pe_int) (pa_cons pe_int pa_nil)))) (pe_lst pa_nil)))
          (pss_one (ps_if (pt_cmpR (op_neD hr.units) (pe_lc (own := [("_law_start_here", 10)]) (g := gName 10) (tt := ttDiff) (te := tVar 10) rfl scLaw.nd (pi_list (pv 9)) (blkOk_by (N := nLaw) (sc := defScope sLaw) (by decide +kernel))
              (fun _ _ _ _ _ => pg_name (i := 10) scLaw.nd rfl (.inl rfl)) (fun _ _ _ _ _ => by exact (pts_one (pt_val (pe_callR DI.ok r2 rfl DI.at_ DI.kp pass0 (pa_cons (pv 4) (pa_cons (pv 5) (pa_cons (pv 3) (pa_cons (pv 10) pa_nil)))))))) (fun _ _ _ _ _ => pv 10)) (pe_lst pa_nil) (nomark _)) (pss_one (ps_ret pe_bl)) pss_nil))))))
        (pss_one (ps_if (pt_cmpR op_ne (pe_callR DF.ok hr rfl DF.at_ DF.kp pass0 (pa_cons (pe_callR DP.ok hr rfl DP.at_ DP.kp pass0 (pa_cons (pv 5) pa_nil)) (pa_cons (pe_callR DP.ok hr rfl DP.at_ DP.kp pass0 (pa_cons (pv 4) pa_nil)) (pa_cons (pv 3) pa_nil)))) (pv 6) (nomark _)) (pss_one (ps_ret pe_bl)) pss_nil))))))))
      (pss_one (ps_ret pe_bl))), ?_⟩
    refine ⟨_, rfl, a, ns, rfl, hF, hlen, fun st H1 _ s1 D1 => ?_⟩
    refine ⟨6, rfl, by decide, by decide, for_range (lo := 0) (n := 6) (fun i σ H' => ∃ (x2 x3 x4 x5 x6 x7 x8 x9 : Option V), σ = [some (.ref a), some (.ref st), x2, x3, x4, x5, x6, x7, x8, x9, none, none] ∧ DrawAt K H' st) ⟨none, none, none, none, none, none, none, none, rfl, D1⟩ ?_ ?_⟩
    · rintro i0 σ H2 hi ⟨x2, x3, x4, x5, x6, x7, x8, x9, rfl, D2⟩
      -- the house
      have ten : (10 : Int) ^ (18 : Int).toNat = 1000000000000000000 := by decide
      refine ⟨_, rfl, st, 13, rfl, D2, by decide, by decide, fun ra H3 a0 a1 D3 b3 => ⟨_, _, rfl, rfl, ⟨by decide, by decide, by decide⟩, by show 2 ≤ sizeLine; decide, fun l2 hl2 => ?_⟩⟩
      have ns2 : l2 ≠ st := let ⟨_, e⟩ := D3.lst; (ne_of_none e hl2).symm
      refine ⟨_, rfl, st, 3, rfl, D3.same (same_upd hl2), by decide, by decide, fun rc H5 q0 q1 D5 b5 => ⟨_, _, rfl, rfl, ⟨by decide, by decide⟩, ?_⟩⟩
      obtain ⟨c, hc, c00, c01⟩ : ∃ c, atI [V.int ra, V.int (10 ^ (18 : Int).toNat)] (rc / 2) = some (V.int c) ∧ 0 ≤ c ∧ c ≤ 1000000000000000000 := by
        have : rc / 2 = ((0 : Nat) : Int) ∨ rc / 2 = ((1 : Nat) : Int) := by omega
        rcases this with z | z
        · exact ⟨ra, at_of z rfl, a0, by omega⟩
        · exact ⟨_, at_of z rfl, by rw [ten]; omega, by rw [ten]; omega⟩
      refine ⟨l2, _, _, _, rfl, rfl, SqL.of (b5 _ _ ns2 upd_same), hc, ?_⟩
      -- the two lists of steps, their plans, what is found
      refine ⟨_, rfl, _, rfl, st, 6, c, rfl, D5, by decide, by decide, c00, c01, fun l ws ss H6 hl0 hl6 hs6 hn ho D6 b6 => ?_⟩
      have nl : l ≠ st := let ⟨_, e⟩ := D5.lst; (ne_of_none e hl0).symm
      refine ⟨_, rfl, _, rfl, _, rfl, st, l, ws, ss, c, rfl, D6, hl6, nl, hs6, by omega, ho, c00, c01, fun m vs us H7 nm hm7 hu7 hun huo D7 b7 => ?_⟩
      have hl7 := b7 _ _ nl hl6
      have hs7 := hs6.but b7 D6.lst
      refine ⟨_, rfl, l, ws, ss, rfl, hl7, hs7, by omega, fun z hz => (ho z hz).mono c01, fun p1 H8 s8 hp1 => ?_⟩
      refine ⟨_, rfl, m, vs, us, rfl, s8 _ _ hm7, hu7.same s8, hun, fun z hz => (huo z hz).mono c01, fun p2 H9 s9 hp2 => ?_⟩
      refine ⟨_, rfl, p1, p2, ss, us, c, rfl, hp1.same s9, hp2, c00, c01, ho, huo, by omega, hun, fun o H10 s10 hfo => ?_⟩
      have s710 := (s8.trans s9).trans s10
      have hl10 := s710 _ _ hl7
      have hm10 := s710 _ _ hm7
      have hs10 := hs7.same s710
      have hu10 := hu7.same s710
      have D10 := D7.same s710
      clear s710 s10 s9 s8 hp1 hp2
      refine ⟨_, rfl, _, _, rfl, rfl, _, rfl, ?_⟩
      by_cases h20 : c < 20
      · refine ifT (decide_eq_true h20) ⟨_, rfl, _, _, rfl, rfl, c + 1, rfl, by omega, by omega, fun D hD => ?_⟩
        refine lc_range (lo := 0) (n := (c + 1).toNat) (fun i H' => Same H10 H' ∧ ∃ ns : List Int, H' D = some (.lst (ns.map V.int)) ∧ ns.length ≤ i ∧ FirstB c ss us i ns.head?) ⟨same_upd hD, [], upd_same, Nat.zero_le _, fun x x0 x1 => by omega⟩ ?_ ?_
        · rintro j Hx hj ⟨sx, zs, ex, nx, fx⟩
          refine ⟨rfl, _, rfl, _, rfl, _, rfl, _, rfl, l, m, ws, vs, ss, us, c, _, rfl, sx _ _ hl10, sx _ _ hm10, hs10.same sx, hu10.same sx, by omega, hun, fun Hy sy => ⟨_, rfl, ?_⟩⟩
          by_cases e : outF c ss (j : Int) = outF c us (j : Int)
          · exact ifF (by rw [Int.zero_add, decide_eq_true e]; rfl) ⟨sx.trans sy, zs, sy _ _ ex, by omega, firstB_no fx e⟩
          · refine ifT (by rw [Int.zero_add, decide_eq_false e]; rfl) ⟨_, rfl, _, sy _ _ ex, small_line (n := 2000) (by rw [List.length_map]; omega) (by omega), same_new hD (sx.trans sy), zs ++ [0 + (j : Int)], upd_lst (by rw [List.map_append]; rfl), by rw [List.length_append]; show _ + 1 ≤ _; omega, by rw [Int.zero_add]; exact firstB_yes fx e⟩
        · rintro Hx ⟨sx, zs, ex, nx, fx⟩
          have eo := first_same hfo (firstB_end c00 fx)
          refine ⟨_, rfl, _, rfl, by show 0 ≤ sizeLine; decide, fun le hle => ⟨.list (zs.map PyData.int), .list [], .lst (SqL.of ((same_upd hle) _ _ ex)) (dp_ints zs), .lst (SqL.of upd_same) .nil, shaped_list zs, shaped_list [], _, rfl, ?_⟩⟩
          have sL := sx.trans (same_upd (o := .lst []) hle)
          have hlL := sL _ _ hl10
          have hmL := sL _ _ hm10
          have hsL := hs10.same sL
          have huL := hu10.same sL
          have DL := D10.same sL
          have exL := (same_upd (o := .lst []) hle) _ _ ex
          rw [eqv_nil]
          cases zs with
          | nil =>
            refine ifF (by simp) ⟨scal_goal o none, _, rfl, ?_⟩
            refine ifF (by rw [eo]; rfl) ?_
            refine ⟨_, rfl, m, vs, us, rfl, hmL, huL, hun, fun z hz => (huo z hz).mono c01, fun p3 Ha sa hp3 => ?_⟩
            refine ⟨_, rfl, l, ws, ss, rfl, sa _ _ hlL, hsL.same sa, by omega, fun z hz => (ho z hz).mono c01, fun p4 Hb sb hp4 => ?_⟩
            refine ⟨_, rfl, p3, p4, us, ss, c, rfl, hp3.same sb, hp4, c00, c01, huo, ho, hun, by omega, fun o2 Hc sc2 hfo2 => ?_⟩
            refine ⟨_, rfl, scal_goal _ _, _, rfl, ?_⟩
            have eo2 := first_uniq hfo2 hfo
            refine ifF (by rw [eo2]; simp) ?_
            exact ⟨_, _, _, _, _, _, _, _, rfl, DL.same ((sa.trans sb).trans sc2)⟩

          | cons z zs =>
            refine ifT (by simp) ⟨_, rfl, D, _, _, _, rfl, rfl, SqL.of exL, at_of (j := 0) rfl rfl, scal_goal o (some z), _, rfl, ?_⟩
            refine ifF (by rw [eo]; simp [goalV]) ?_
            refine ⟨_, rfl, m, vs, us, rfl, hmL, huL, hun, fun z hz => (huo z hz).mono c01, fun p3 Ha sa hp3 => ?_⟩
            refine ⟨_, rfl, l, ws, ss, rfl, sa _ _ hlL, hsL.same sa, by omega, fun z hz => (ho z hz).mono c01, fun p4 Hb sb hp4 => ?_⟩
            refine ⟨_, rfl, p3, p4, us, ss, c, rfl, hp3.same sb, hp4, c00, c01, huo, ho, hun, by omega, fun o2 Hc sc2 hfo2 => ?_⟩
            refine ⟨_, rfl, scal_goal _ _, _, rfl, ?_⟩
            have eo2 := first_uniq hfo2 hfo
            refine ifF (by rw [eo2]; simp) ?_
            exact ⟨_, _, _, _, _, _, _, _, rfl, DL.same ((sa.trans sb).trans sc2)⟩

      · refine ifF (decide_eq_false h20) ?_
        cases o with
        | none =>
          refine ⟨_, rfl, rfl, _, rfl, ?_⟩
          refine ifT (decide_eq_true rfl) ⟨_, rfl, _, _, rfl, rfl, ?_⟩
          refine ⟨_, rfl, rfl, _, rfl, ?_⟩
          refine ifF (by simp [goalV]) ?_
          obtain ⟨lim, hlim⟩ : ∃ lim, lim = c + 1 := ⟨_, rfl⟩
          dsimp only
          rw [← hlim]
          have L1 : lim ≤ c + 1 := by omega
          have LE : ∀ y, 0 ≤ y → y < lim → outF c ss y = outF c us y := fun y y0 y1 => hfo y y0 (by omega)
          refine ⟨_, rfl, _, _, rfl, rfl, _, rfl, ?_⟩
          by_cases hl0 : 0 < lim
          · refine ifT (decide_eq_true hl0) ⟨5, rfl, by decide, by decide, fun Ds hDs => ?_⟩
            have nsD : st ≠ Ds := let ⟨_, e⟩ := D10.lst; ne_of_none e hDs
            refine lc_range (lo := 0) (n := 5) (fun i H' => But st H10 H' ∧ DrawAt K H' st ∧ ∃ ns : List Int, H' Ds = some (.lst (ns.map V.int)) ∧ ns.length = i ∧ ∀ z ∈ ns, 0 ≤ z ∧ z < lim) ⟨But.of (same_upd hDs), D10.same (same_upd hDs), [], upd_same, rfl, by simp⟩ ?_ ?_
            · rintro j Hy hj ⟨by_, Dy, zs, ey, ny, zy⟩
              refine ⟨rfl, _, rfl, _, rfl, st, lim, rfl, Dy, hl0, by omega, fun r Hz r0 r1' Dz bz => ?_⟩
              have ez := bz _ _ nsD.symm ey
              refine ⟨_, ez, small_line (n := 2000) (by rw [List.length_map, ny]; omega) (by omega), fun b o n e => ?_, Dz.but but_upd ⟨_, ez⟩ nsD, zs ++ [r], upd_lst ?_, ?_, fun z hz => ?_⟩
              · rw [upd_ne (ne_of_none e hDs)]
                exact bz b o n (by_ b o n e)
              · rw [List.map_append]
                rfl
              · rw [List.length_append, ny]
                rfl
              · rcases List.mem_append.mp hz with z1 | z1
                · exact zy z z1
                · rw [List.mem_singleton.mp z1]
                  omega
            · rintro Hy ⟨by_, Dy, zs, ey, ny, zy⟩
              refine ⟨_, rfl, _, _, rfl, rfl, by show 2 ≤ sizeLine; decide, fun lz hlz => ?_⟩
              refine ⟨Ds, lz, _, _, rfl, rfl, (same_upd hlz) _ _ ey, upd_same, by rw [List.length_map, ny]; show 5 + 2 ≤ sizeLine; decide, fun lp hlp => ?_⟩
              have sQ := (same_upd (o := .lst [.int (lim - 1), .int 0]) hlz).trans (same_upd (o := .lst (zs.map V.int ++ [.int (lim - 1), .int 0])) hlp)
              have elp : upd (upd Hy lz (.lst [.int (lim - 1), .int 0])) lp (.lst (zs.map V.int ++ [.int (lim - 1), .int 0])) lp = some (.lst ((zs ++ [lim - 1, 0]).map V.int)) := by
                rw [List.map_append]
                exact upd_same
              generalize upd (upd Hy lz (.lst [.int (lim - 1), .int 0])) lp (.lst (zs.map V.int ++ [.int (lim - 1), .int 0])) = Hq at *
              have zqs : ∀ z ∈ zs ++ [lim - 1, 0], 0 ≤ z ∧ z < lim := fun z hz => by
                rcases List.mem_append.mp hz with z1 | z1
                · exact zy z z1
                · simp at z1
                  omega
              generalize zs ++ [lim - 1, 0] = zq at *
              have bQ : But st H10 Hq := by_.trans (But.of sQ)
              have hlQ := bQ _ _ nl hl10
              have hmQ := bQ _ _ nm hm10
              have hsQ := hs10.but bQ D10.lst
              have huQ := hu10.but bQ D10.lst
              have DQ := Dy.same sQ
              refine ⟨_, rfl, lp, rfl, ⟨_, SqL.of elp⟩, fun Dn hDn => ?_⟩
              refine lc_list (K := K) (a := lp) (xs := zq.map V.int) (fun i H' => Same Hq H' ∧ H' Dn = some (.lst [])) ⟨same_upd hDn, upd_same⟩ (fun i H' _ ⟨sx, _⟩ => SqL.of (sx _ _ elp)) ?_ ?_
              · rintro j y Hx hj ⟨sx, ex⟩
                rw [List.getElem?_map] at hj
                obtain ⟨z, hz, rfl⟩ : ∃ z, zq[j]? = some z ∧ y = V.int z := by
                  cases e : zq[j]? with
                  | none =>
                    rw [e] at hj
                    cases hj
                  | some z =>
                    rw [e] at hj
                    exact ⟨z, rfl, (Option.some.inj hj).symm⟩
                obtain ⟨z0, z1⟩ := zqs z (List.mem_of_getElem? hz)
                refine ⟨rfl, _, rfl, _, rfl, _, rfl, _, rfl, l, m, ws, vs, ss, us, c, z, rfl, sx _ _ hlQ, sx _ _ hmQ, hsQ.same sx, huQ.same sx, by omega, hun, fun Hy sy => ⟨_, rfl, ?_⟩⟩
                refine ifF (by rw [decide_eq_true (LE z z0 z1)]; rfl) ⟨sx.trans sy, sy _ _ ex⟩
              · rintro Hx ⟨sx, ex⟩
                refine ⟨by show 0 ≤ sizeLine; decide, fun le hle => ⟨.list [], .list [], .lst (SqL.of ((same_upd hle) _ _ ex)) .nil, .lst (SqL.of upd_same) .nil, shaped_list [], shaped_list [], _, rfl, ?_⟩⟩
                refine ifF (by decide +kernel) ?_
                have sL := sx.trans (same_upd (o := .lst []) hle)
                have hlL := sL _ _ hlQ
                have hmL := sL _ _ hmQ
                have hsL := hsQ.same sL
                have huL := huQ.same sL
                have DL := DQ.same sL
                refine ⟨_, rfl, m, vs, us, rfl, hmL, huL, hun, fun z hz => (huo z hz).mono c01, fun p3 Ha sa hp3 => ?_⟩
                refine ⟨_, rfl, l, ws, ss, rfl, sa _ _ hlL, hsL.same sa, by omega, fun z hz => (ho z hz).mono c01, fun p4 Hb sb hp4 => ?_⟩
                refine ⟨_, rfl, p3, p4, us, ss, c, rfl, hp3.same sb, hp4, c00, c01, huo, ho, hun, by omega, fun o2 Hc sc2 hfo2 => ?_⟩
                refine ⟨_, rfl, scal_goal _ _, _, rfl, ?_⟩
                have eo2 := first_uniq hfo2 hfo
                refine ifF (by rw [eo2]; simp) ?_
                exact ⟨_, _, _, _, _, _, _, _, rfl, DL.same ((sa.trans sb).trans sc2)⟩

          · refine ifF (decide_eq_false hl0) ⟨by show 0 ≤ sizeLine; decide, fun lp hlp => ?_⟩
            have sQ : Same H10 (upd H10 lp (.lst [])) := same_upd hlp
            have elp : upd H10 lp (.lst []) lp = some (.lst (([] : List Int).map V.int)) := upd_same
            generalize upd H10 lp (.lst []) = Hq at *
            have zqs : ∀ z ∈ ([] : List Int), 0 ≤ z ∧ z < lim := fun z hz => nomatch hz
            generalize ([] : List Int) = zq at *
            have hlQ := sQ _ _ hl10
            have hmQ := sQ _ _ hm10
            have hsQ := hs10.same sQ
            have huQ := hu10.same sQ
            have DQ := D10.same sQ
            refine ⟨_, rfl, lp, rfl, ⟨_, SqL.of elp⟩, fun Dn hDn => ?_⟩
            refine lc_list (K := K) (a := lp) (xs := zq.map V.int) (fun i H' => Same Hq H' ∧ H' Dn = some (.lst [])) ⟨same_upd hDn, upd_same⟩ (fun i H' _ ⟨sx, _⟩ => SqL.of (sx _ _ elp)) ?_ ?_
            · rintro j y Hx hj ⟨sx, ex⟩
              rw [List.getElem?_map] at hj
              obtain ⟨z, hz, rfl⟩ : ∃ z, zq[j]? = some z ∧ y = V.int z := by
                cases e : zq[j]? with
                | none =>
                  rw [e] at hj
                  cases hj
                | some z =>
                  rw [e] at hj
                  exact ⟨z, rfl, (Option.some.inj hj).symm⟩
              obtain ⟨z0, z1⟩ := zqs z (List.mem_of_getElem? hz)
              refine ⟨rfl, _, rfl, _, rfl, _, rfl, _, rfl, l, m, ws, vs, ss, us, c, z, rfl, sx _ _ hlQ, sx _ _ hmQ, hsQ.same sx, huQ.same sx, by omega, hun, fun Hy sy => ⟨_, rfl, ?_⟩⟩
              refine ifF (by rw [decide_eq_true (LE z z0 z1)]; rfl) ⟨sx.trans sy, sy _ _ ex⟩
            · rintro Hx ⟨sx, ex⟩
              refine ⟨by show 0 ≤ sizeLine; decide, fun le hle => ⟨.list [], .list [], .lst (SqL.of ((same_upd hle) _ _ ex)) .nil, .lst (SqL.of upd_same) .nil, shaped_list [], shaped_list [], _, rfl, ?_⟩⟩
              refine ifF (by decide +kernel) ?_
              have sL := sx.trans (same_upd (o := .lst []) hle)
              have hlL := sL _ _ hlQ
              have hmL := sL _ _ hmQ
              have hsL := hsQ.same sL
              have huL := huQ.same sL
              have DL := DQ.same sL
              refine ⟨_, rfl, m, vs, us, rfl, hmL, huL, hun, fun z hz => (huo z hz).mono c01, fun p3 Ha sa hp3 => ?_⟩
              refine ⟨_, rfl, l, ws, ss, rfl, sa _ _ hlL, hsL.same sa, by omega, fun z hz => (ho z hz).mono c01, fun p4 Hb sb hp4 => ?_⟩
              refine ⟨_, rfl, p3, p4, us, ss, c, rfl, hp3.same sb, hp4, c00, c01, huo, ho, hun, by omega, fun o2 Hc sc2 hfo2 => ?_⟩
              refine ⟨_, rfl, scal_goal _ _, _, rfl, ?_⟩
              have eo2 := first_uniq hfo2 hfo
              refine ifF (by rw [eo2]; simp) ?_
              exact ⟨_, _, _, _, _, _, _, _, rfl, DL.same ((sa.trans sb).trans sc2)⟩

        | some lim =>
          obtain ⟨f0, f1, f2, LE⟩ := id hfo
          have L1 : lim ≤ c + 1 := by omega
          refine ⟨_, rfl, rfl, _, rfl, ?_⟩
          refine ifF (by simp [goalV]) ⟨_, rfl, ?_⟩
          refine ⟨_, rfl, rfl, _, rfl, ?_⟩
          refine ifT (by simp [goalV]) ⟨_, rfl, _, rfl, _, rfl, _, rfl, l, m, ws, vs, ss, us, c, lim, rfl, hl10, hm10, hs10, hu10, by omega, hun, fun Hd sd => ⟨_, rfl, ?_⟩⟩
          rw [decide_eq_false f2]
          refine iteF ?_
          have hl10 := sd _ _ hl10
          have hm10 := sd _ _ hm10
          have hs10 := hs10.same sd
          have hu10 := hu10.same sd
          have D10 := D10.same sd
          generalize Hd = H10 at *
          refine ⟨_, rfl, _, _, rfl, rfl, _, rfl, ?_⟩
          by_cases hl0 : 0 < lim
          · refine ifT (decide_eq_true hl0) ⟨5, rfl, by decide, by decide, fun Ds hDs => ?_⟩
            have nsD : st ≠ Ds := let ⟨_, e⟩ := D10.lst; ne_of_none e hDs
            refine lc_range (lo := 0) (n := 5) (fun i H' => But st H10 H' ∧ DrawAt K H' st ∧ ∃ ns : List Int, H' Ds = some (.lst (ns.map V.int)) ∧ ns.length = i ∧ ∀ z ∈ ns, 0 ≤ z ∧ z < lim) ⟨But.of (same_upd hDs), D10.same (same_upd hDs), [], upd_same, rfl, by simp⟩ ?_ ?_
            · rintro j Hy hj ⟨by_, Dy, zs, ey, ny, zy⟩
              refine ⟨rfl, _, rfl, _, rfl, st, lim, rfl, Dy, hl0, by omega, fun r Hz r0 r1' Dz bz => ?_⟩
              have ez := bz _ _ nsD.symm ey
              refine ⟨_, ez, small_line (n := 2000) (by rw [List.length_map, ny]; omega) (by omega), fun b o n e => ?_, Dz.but but_upd ⟨_, ez⟩ nsD, zs ++ [r], upd_lst ?_, ?_, fun z hz => ?_⟩
              · rw [upd_ne (ne_of_none e hDs)]
                exact bz b o n (by_ b o n e)
              · rw [List.map_append]
                rfl
              · rw [List.length_append, ny]
                rfl
              · rcases List.mem_append.mp hz with z1 | z1
                · exact zy z z1
                · rw [List.mem_singleton.mp z1]
                  omega
            · rintro Hy ⟨by_, Dy, zs, ey, ny, zy⟩
              refine ⟨_, rfl, _, _, rfl, rfl, by show 2 ≤ sizeLine; decide, fun lz hlz => ?_⟩
              refine ⟨Ds, lz, _, _, rfl, rfl, (same_upd hlz) _ _ ey, upd_same, by rw [List.length_map, ny]; show 5 + 2 ≤ sizeLine; decide, fun lp hlp => ?_⟩
              have sQ := (same_upd (o := .lst [.int (lim - 1), .int 0]) hlz).trans (same_upd (o := .lst (zs.map V.int ++ [.int (lim - 1), .int 0])) hlp)
              have elp : upd (upd Hy lz (.lst [.int (lim - 1), .int 0])) lp (.lst (zs.map V.int ++ [.int (lim - 1), .int 0])) lp = some (.lst ((zs ++ [lim - 1, 0]).map V.int)) := by
                rw [List.map_append]
                exact upd_same
              generalize upd (upd Hy lz (.lst [.int (lim - 1), .int 0])) lp (.lst (zs.map V.int ++ [.int (lim - 1), .int 0])) = Hq at *
              have zqs : ∀ z ∈ zs ++ [lim - 1, 0], 0 ≤ z ∧ z < lim := fun z hz => by
                rcases List.mem_append.mp hz with z1 | z1
                · exact zy z z1
                · simp at z1
                  omega
              generalize zs ++ [lim - 1, 0] = zq at *
              have bQ : But st H10 Hq := by_.trans (But.of sQ)
              have hlQ := bQ _ _ nl hl10
              have hmQ := bQ _ _ nm hm10
              have hsQ := hs10.but bQ D10.lst
              have huQ := hu10.but bQ D10.lst
              have DQ := Dy.same sQ
              refine ⟨_, rfl, lp, rfl, ⟨_, SqL.of elp⟩, fun Dn hDn => ?_⟩
              refine lc_list (K := K) (a := lp) (xs := zq.map V.int) (fun i H' => Same Hq H' ∧ H' Dn = some (.lst [])) ⟨same_upd hDn, upd_same⟩ (fun i H' _ ⟨sx, _⟩ => SqL.of (sx _ _ elp)) ?_ ?_
              · rintro j y Hx hj ⟨sx, ex⟩
                rw [List.getElem?_map] at hj
                obtain ⟨z, hz, rfl⟩ : ∃ z, zq[j]? = some z ∧ y = V.int z := by
                  cases e : zq[j]? with
                  | none =>
                    rw [e] at hj
                    cases hj
                  | some z =>
                    rw [e] at hj
                    exact ⟨z, rfl, (Option.some.inj hj).symm⟩
                obtain ⟨z0, z1⟩ := zqs z (List.mem_of_getElem? hz)
                refine ⟨rfl, _, rfl, _, rfl, _, rfl, _, rfl, l, m, ws, vs, ss, us, c, z, rfl, sx _ _ hlQ, sx _ _ hmQ, hsQ.same sx, huQ.same sx, by omega, hun, fun Hy sy => ⟨_, rfl, ?_⟩⟩
                refine ifF (by rw [decide_eq_true (LE z z0 z1)]; rfl) ⟨sx.trans sy, sy _ _ ex⟩
              · rintro Hx ⟨sx, ex⟩
                refine ⟨by show 0 ≤ sizeLine; decide, fun le hle => ⟨.list [], .list [], .lst (SqL.of ((same_upd hle) _ _ ex)) .nil, .lst (SqL.of upd_same) .nil, shaped_list [], shaped_list [], _, rfl, ?_⟩⟩
                refine ifF (by decide +kernel) ?_
                have sL := sx.trans (same_upd (o := .lst []) hle)
                have hlL := sL _ _ hlQ
                have hmL := sL _ _ hmQ
                have hsL := hsQ.same sL
                have huL := huQ.same sL
                have DL := DQ.same sL
                refine ⟨_, rfl, m, vs, us, rfl, hmL, huL, hun, fun z hz => (huo z hz).mono c01, fun p3 Ha sa hp3 => ?_⟩
                refine ⟨_, rfl, l, ws, ss, rfl, sa _ _ hlL, hsL.same sa, by omega, fun z hz => (ho z hz).mono c01, fun p4 Hb sb hp4 => ?_⟩
                refine ⟨_, rfl, p3, p4, us, ss, c, rfl, hp3.same sb, hp4, c00, c01, huo, ho, hun, by omega, fun o2 Hc sc2 hfo2 => ?_⟩
                refine ⟨_, rfl, scal_goal _ _, _, rfl, ?_⟩
                have eo2 := first_uniq hfo2 hfo
                refine ifF (by rw [eo2]; simp) ?_
                exact ⟨_, _, _, _, _, _, _, _, rfl, DL.same ((sa.trans sb).trans sc2)⟩

          · refine ifF (decide_eq_false hl0) ⟨by show 0 ≤ sizeLine; decide, fun lp hlp => ?_⟩
            have sQ : Same H10 (upd H10 lp (.lst [])) := same_upd hlp
            have elp : upd H10 lp (.lst []) lp = some (.lst (([] : List Int).map V.int)) := upd_same
            generalize upd H10 lp (.lst []) = Hq at *
            have zqs : ∀ z ∈ ([] : List Int), 0 ≤ z ∧ z < lim := fun z hz => nomatch hz
            generalize ([] : List Int) = zq at *
            have hlQ := sQ _ _ hl10
            have hmQ := sQ _ _ hm10
            have hsQ := hs10.same sQ
            have huQ := hu10.same sQ
            have DQ := D10.same sQ
            refine ⟨_, rfl, lp, rfl, ⟨_, SqL.of elp⟩, fun Dn hDn => ?_⟩
            refine lc_list (K := K) (a := lp) (xs := zq.map V.int) (fun i H' => Same Hq H' ∧ H' Dn = some (.lst [])) ⟨same_upd hDn, upd_same⟩ (fun i H' _ ⟨sx, _⟩ => SqL.of (sx _ _ elp)) ?_ ?_
            · rintro j y Hx hj ⟨sx, ex⟩
              rw [List.getElem?_map] at hj
              obtain ⟨z, hz, rfl⟩ : ∃ z, zq[j]? = some z ∧ y = V.int z := by
                cases e : zq[j]? with
                | none =>
                  rw [e] at hj
                  cases hj
                | some z =>
                  rw [e] at hj
                  exact ⟨z, rfl, (Option.some.inj hj).symm⟩
              obtain ⟨z0, z1⟩ := zqs z (List.mem_of_getElem? hz)
              refine ⟨rfl, _, rfl, _, rfl, _, rfl, _, rfl, l, m, ws, vs, ss, us, c, z, rfl, sx _ _ hlQ, sx _ _ hmQ, hsQ.same sx, huQ.same sx, by omega, hun, fun Hy sy => ⟨_, rfl, ?_⟩⟩
              refine ifF (by rw [decide_eq_true (LE z z0 z1)]; rfl) ⟨sx.trans sy, sy _ _ ex⟩
            · rintro Hx ⟨sx, ex⟩
              refine ⟨by show 0 ≤ sizeLine; decide, fun le hle => ⟨.list [], .list [], .lst (SqL.of ((same_upd hle) _ _ ex)) .nil, .lst (SqL.of upd_same) .nil, shaped_list [], shaped_list [], _, rfl, ?_⟩⟩
              refine ifF (by decide +kernel) ?_
              have sL := sx.trans (same_upd (o := .lst []) hle)
              have hlL := sL _ _ hlQ
              have hmL := sL _ _ hmQ
              have hsL := hsQ.same sL
              have huL := huQ.same sL
              have DL := DQ.same sL
              refine ⟨_, rfl, m, vs, us, rfl, hmL, huL, hun, fun z hz => (huo z hz).mono c01, fun p3 Ha sa hp3 => ?_⟩
              refine ⟨_, rfl, l, ws, ss, rfl, sa _ _ hlL, hsL.same sa, by omega, fun z hz => (ho z hz).mono c01, fun p4 Hb sb hp4 => ?_⟩
              refine ⟨_, rfl, p3, p4, us, ss, c, rfl, hp3.same sb, hp4, c00, c01, huo, ho, hun, by omega, fun o2 Hc sc2 hfo2 => ?_⟩
              refine ⟨_, rfl, scal_goal _ _, _, rfl, ?_⟩
              have eo2 := first_uniq hfo2 hfo
              refine ifF (by rw [eo2]; simp) ?_
              exact ⟨_, _, _, _, _, _, _, _, rfl, DL.same ((sa.trans sb).trans sc2)⟩
    · rintro σ H2 ⟨x2, x3, x4, x5, x6, x7, x8, x9, rfl, D2⟩
      exact k H2
end
end Cc


namespace Cc
open PySem PySem.Spec PyProof.Rows L2

theorem dn_mk {P : Program} {w : World} {K : PySem.W.Frag} {mg : Str → Option Value} {base : Heap} {k : Nat} {x : Str} {f : Addr} {fd : FuncData} {ps : List Str} {sp : Sp} (a : mg x = some (.ref f)) (kp : PySem.W.keepIn K (.ref f) = true) (F : FnOk P w K mg base CX0 k f fd ps sp) (b : Binds K fd ps []) :
    Dn P w K mg base k x f sp := ⟨a, kp, (F.raw b .nil).imp fun vs H Q E h => by rw [List.append_nil]; exact h⟩
theorem all_mk {P : Program} {w : World} {K : PySem.W.Frag} {h : Heap} {mg : Str → Option Value} {fa C TU pS f_is_whole f_is_number f_check_number f_check_house f_is_step f__law_start f__law_drawn f__law_random_steps f__law_plan f__law_played f_after_step f_after_steps f_allowed_range f_narrowed f_nearest f_effect_of f_summary f_telling_starts f_first_difference f__law_other f__law_differ f_law fminit fmjoined fmst : Addr} (X : K.In h) (G : h.Ns mainGlobals mg) (hfa : mg "law" = some (.ref fa))
    {od_is_whole an_is_whole od_is_number an_is_number od_check_number an_check_number od_check_house an_check_house od_is_step an_is_step od__law_start an__law_start od__law_drawn an__law_drawn od__law_random_steps an__law_random_steps od__law_plan an__law_plan od__law_played an__law_played od_after_step an_after_step od_after_steps an_after_steps od_allowed_range an_allowed_range od_narrowed an_narrowed od_nearest an_nearest od_effect_of an_effect_of od_summary an_summary od_telling_starts an_telling_starts od_first_difference an_first_difference od__law_other an__law_other od__law_differ an__law_differ od_law an_law odminit anminit odmjoined anmjoined odmst anmst dT : Option Addr} {sl_is_whole sl_is_number sl_check_number sl_check_house sl_is_step sl__law_start sl__law_drawn sl__law_random_steps sl__law_plan sl__law_played sl_after_step sl_after_steps sl_allowed_range sl_narrowed sl_nearest sl_effect_of sl_summary sl_telling_starts sl_first_difference sl__law_other sl__law_differ sl_law slminit slmjoined slmst slT : Array (Option Value)} {oc_is_whole kV_is_whole dc_is_whole pm_is_whole cd_is_whole ct_is_whole oc_is_number kV_is_number dc_is_number pm_is_number cd_is_number ct_is_number oc_check_number kV_check_number dc_check_number pm_check_number cd_check_number ct_check_number oc_check_house kV_check_house dc_check_house pm_check_house cd_check_house ct_check_house oc_is_step kV_is_step dc_is_step pm_is_step cd_is_step ct_is_step oc__law_start kV__law_start dc__law_start pm__law_start cd__law_start ct__law_start oc__law_drawn kV__law_drawn dc__law_drawn pm__law_drawn cd__law_drawn ct__law_drawn oc__law_random_steps kV__law_random_steps dc__law_random_steps pm__law_random_steps cd__law_random_steps ct__law_random_steps oc__law_plan kV__law_plan dc__law_plan pm__law_plan cd__law_plan ct__law_plan oc__law_played kV__law_played dc__law_played pm__law_played cd__law_played ct__law_played oc_after_step kV_after_step dc_after_step pm_after_step cd_after_step ct_after_step oc_after_steps kV_after_steps dc_after_steps pm_after_steps cd_after_steps ct_after_steps oc_allowed_range kV_allowed_range dc_allowed_range pm_allowed_range cd_allowed_range ct_allowed_range oc_narrowed kV_narrowed dc_narrowed pm_narrowed cd_narrowed ct_narrowed oc_nearest kV_nearest dc_nearest pm_nearest cd_nearest ct_nearest oc_effect_of kV_effect_of dc_effect_of pm_effect_of cd_effect_of ct_effect_of oc_summary kV_summary dc_summary pm_summary cd_summary ct_summary oc_telling_starts kV_telling_starts dc_telling_starts pm_telling_starts cd_telling_starts ct_telling_starts oc_first_difference kV_first_difference dc_first_difference pm_first_difference cd_first_difference ct_first_difference oc__law_other kV__law_other dc__law_other pm__law_other cd__law_other ct__law_other oc__law_differ kV__law_differ dc__law_differ pm__law_differ cd__law_differ ct__law_differ oc_law kV_law dc_law pm_law cd_law ct_law ocminit kVminit dcminit pmminit cdminit ctminit ocmjoined kVmjoined dcmjoined pmmjoined cdmjoined ctmjoined ocmst kVmst dcmst pmmst cdmst ctmst : Value} {rs : List Value} {t1 t2 t3 t4 : Tok} {nT : Nat}
    (a_is_whole : PySem.W.nsIn K mainGlobals "is_whole" = some (some (.ref f_is_whole)))
    (l_is_whole : K.lookup f_is_whole = some ⟨oc_is_whole, od_is_whole, .func (PySem.W.fnOf "is_whole" "is_whole" (defArgs sIsWhole) (defBody sIsWhole) (defScope sIsWhole) .none kV_is_whole dc_is_whole pm_is_whole an_is_whole cd_is_whole ct_is_whole), sl_is_whole⟩)
    (c_is_whole : PySem.W.codeIn K cd_is_whole "is_whole" = true)
    (k_is_whole : PySem.W.keepIn K (.ref f_is_whole) = true)
    (a_is_number : PySem.W.nsIn K mainGlobals "is_number" = some (some (.ref f_is_number)))
    (l_is_number : K.lookup f_is_number = some ⟨oc_is_number, od_is_number, .func (PySem.W.fnOf "is_number" "is_number" (defArgs sIsNum) (defBody sIsNum) (defScope sIsNum) .none kV_is_number dc_is_number pm_is_number an_is_number cd_is_number ct_is_number), sl_is_number⟩)
    (c_is_number : PySem.W.codeIn K cd_is_number "is_number" = true)
    (k_is_number : PySem.W.keepIn K (.ref f_is_number) = true)
    (a_check_number : PySem.W.nsIn K mainGlobals "check_number" = some (some (.ref f_check_number)))
    (l_check_number : K.lookup f_check_number = some ⟨oc_check_number, od_check_number, .func (PySem.W.fnOf "check_number" "check_number" (defArgs sChkNum) (defBody sChkNum) (defScope sChkNum) .none kV_check_number dc_check_number pm_check_number an_check_number cd_check_number ct_check_number), sl_check_number⟩)
    (c_check_number : PySem.W.codeIn K cd_check_number "check_number" = true)
    (k_check_number : PySem.W.keepIn K (.ref f_check_number) = true)
    (a_check_house : PySem.W.nsIn K mainGlobals "check_house" = some (some (.ref f_check_house)))
    (l_check_house : K.lookup f_check_house = some ⟨oc_check_house, od_check_house, .func (PySem.W.fnOf "check_house" "check_house" (defArgs sChkHouse) (defBody sChkHouse) (defScope sChkHouse) .none kV_check_house dc_check_house pm_check_house an_check_house cd_check_house ct_check_house), sl_check_house⟩)
    (c_check_house : PySem.W.codeIn K cd_check_house "check_house" = true)
    (k_check_house : PySem.W.keepIn K (.ref f_check_house) = true)
    (a_is_step : PySem.W.nsIn K mainGlobals "is_step" = some (some (.ref f_is_step)))
    (l_is_step : K.lookup f_is_step = some ⟨oc_is_step, od_is_step, .func (PySem.W.fnOf "is_step" "is_step" (defArgs sIsStep) (defBody sIsStep) (defScope sIsStep) .none kV_is_step dc_is_step pm_is_step an_is_step cd_is_step ct_is_step), sl_is_step⟩)
    (c_is_step : PySem.W.codeIn K cd_is_step "is_step" = true)
    (k_is_step : PySem.W.keepIn K (.ref f_is_step) = true)
    (a__law_start : PySem.W.nsIn K mainGlobals "_law_start" = some (some (.ref f__law_start)))
    (l__law_start : K.lookup f__law_start = some ⟨oc__law_start, od__law_start, .func (PySem.W.fnOf "_law_start" "_law_start" (defArgs sStart) (defBody sStart) (defScope sStart) .none kV__law_start dc__law_start pm__law_start an__law_start cd__law_start ct__law_start), sl__law_start⟩)
    (c__law_start : PySem.W.codeIn K cd__law_start "_law_start" = true)
    (k__law_start : PySem.W.keepIn K (.ref f__law_start) = true)
    (a__law_drawn : PySem.W.nsIn K mainGlobals "_law_drawn" = some (some (.ref f__law_drawn)))
    (l__law_drawn : K.lookup f__law_drawn = some ⟨oc__law_drawn, od__law_drawn, .func (PySem.W.fnOf "_law_drawn" "_law_drawn" (defArgs sDrawn) (defBody sDrawn) (defScope sDrawn) .none kV__law_drawn dc__law_drawn pm__law_drawn an__law_drawn cd__law_drawn ct__law_drawn), sl__law_drawn⟩)
    (c__law_drawn : PySem.W.codeIn K cd__law_drawn "_law_drawn" = true)
    (k__law_drawn : PySem.W.keepIn K (.ref f__law_drawn) = true)
    (a__law_random_steps : PySem.W.nsIn K mainGlobals "_law_random_steps" = some (some (.ref f__law_random_steps)))
    (l__law_random_steps : K.lookup f__law_random_steps = some ⟨oc__law_random_steps, od__law_random_steps, .func (PySem.W.fnOf "_law_random_steps" "_law_random_steps" (defArgs sRnd) (defBody sRnd) (defScope sRnd) .none kV__law_random_steps dc__law_random_steps pm__law_random_steps an__law_random_steps cd__law_random_steps ct__law_random_steps), sl__law_random_steps⟩)
    (c__law_random_steps : PySem.W.codeIn K cd__law_random_steps "_law_random_steps" = true)
    (k__law_random_steps : PySem.W.keepIn K (.ref f__law_random_steps) = true)
    (a__law_plan : PySem.W.nsIn K mainGlobals "_law_plan" = some (some (.ref f__law_plan)))
    (l__law_plan : K.lookup f__law_plan = some ⟨oc__law_plan, od__law_plan, .func (PySem.W.fnOf "_law_plan" "_law_plan" (defArgs sLPlan) (defBody sLPlan) (defScope sLPlan) .none kV__law_plan dc__law_plan pm__law_plan an__law_plan cd__law_plan ct__law_plan), sl__law_plan⟩)
    (c__law_plan : PySem.W.codeIn K cd__law_plan "_law_plan" = true)
    (k__law_plan : PySem.W.keepIn K (.ref f__law_plan) = true)
    (a__law_played : PySem.W.nsIn K mainGlobals "_law_played" = some (some (.ref f__law_played)))
    (l__law_played : K.lookup f__law_played = some ⟨oc__law_played, od__law_played, .func (PySem.W.fnOf "_law_played" "_law_played" (defArgs sPlayed) (defBody sPlayed) (defScope sPlayed) .none kV__law_played dc__law_played pm__law_played an__law_played cd__law_played ct__law_played), sl__law_played⟩)
    (c__law_played : PySem.W.codeIn K cd__law_played "_law_played" = true)
    (k__law_played : PySem.W.keepIn K (.ref f__law_played) = true)
    (a_after_step : PySem.W.nsIn K mainGlobals "after_step" = some (some (.ref f_after_step)))
    (l_after_step : K.lookup f_after_step = some ⟨oc_after_step, od_after_step, .func (PySem.W.fnOf "after_step" "after_step" (defArgs sAStep) (defBody sAStep) (defScope sAStep) .none kV_after_step dc_after_step pm_after_step an_after_step cd_after_step ct_after_step), sl_after_step⟩)
    (c_after_step : PySem.W.codeIn K cd_after_step "after_step" = true)
    (k_after_step : PySem.W.keepIn K (.ref f_after_step) = true)
    (a_after_steps : PySem.W.nsIn K mainGlobals "after_steps" = some (some (.ref f_after_steps)))
    (l_after_steps : K.lookup f_after_steps = some ⟨oc_after_steps, od_after_steps, .func (PySem.W.fnOf "after_steps" "after_steps" (defArgs sASteps) (defBody sASteps) (defScope sASteps) .none kV_after_steps dc_after_steps pm_after_steps an_after_steps cd_after_steps ct_after_steps), sl_after_steps⟩)
    (c_after_steps : PySem.W.codeIn K cd_after_steps "after_steps" = true)
    (k_after_steps : PySem.W.keepIn K (.ref f_after_steps) = true)
    (a_allowed_range : PySem.W.nsIn K mainGlobals "allowed_range" = some (some (.ref f_allowed_range)))
    (l_allowed_range : K.lookup f_allowed_range = some ⟨oc_allowed_range, od_allowed_range, .func (PySem.W.fnOf "allowed_range" "allowed_range" (defArgs sAllow) (defBody sAllow) (defScope sAllow) .none kV_allowed_range dc_allowed_range pm_allowed_range an_allowed_range cd_allowed_range ct_allowed_range), sl_allowed_range⟩)
    (c_allowed_range : PySem.W.codeIn K cd_allowed_range "allowed_range" = true)
    (k_allowed_range : PySem.W.keepIn K (.ref f_allowed_range) = true)
    (a_narrowed : PySem.W.nsIn K mainGlobals "narrowed" = some (some (.ref f_narrowed)))
    (l_narrowed : K.lookup f_narrowed = some ⟨oc_narrowed, od_narrowed, .func (PySem.W.fnOf "narrowed" "narrowed" (defArgs sNarrow) (defBody sNarrow) (defScope sNarrow) .none kV_narrowed dc_narrowed pm_narrowed an_narrowed cd_narrowed ct_narrowed), sl_narrowed⟩)
    (c_narrowed : PySem.W.codeIn K cd_narrowed "narrowed" = true)
    (k_narrowed : PySem.W.keepIn K (.ref f_narrowed) = true)
    (a_nearest : PySem.W.nsIn K mainGlobals "nearest" = some (some (.ref f_nearest)))
    (l_nearest : K.lookup f_nearest = some ⟨oc_nearest, od_nearest, .func (PySem.W.fnOf "nearest" "nearest" (defArgs sNear) (defBody sNear) (defScope sNear) .none kV_nearest dc_nearest pm_nearest an_nearest cd_nearest ct_nearest), sl_nearest⟩)
    (c_nearest : PySem.W.codeIn K cd_nearest "nearest" = true)
    (k_nearest : PySem.W.keepIn K (.ref f_nearest) = true)
    (a_effect_of : PySem.W.nsIn K mainGlobals "effect_of" = some (some (.ref f_effect_of)))
    (l_effect_of : K.lookup f_effect_of = some ⟨oc_effect_of, od_effect_of, .func (PySem.W.fnOf "effect_of" "effect_of" (defArgs sEffect) (defBody sEffect) (defScope sEffect) .none kV_effect_of dc_effect_of pm_effect_of an_effect_of cd_effect_of ct_effect_of), sl_effect_of⟩)
    (c_effect_of : PySem.W.codeIn K cd_effect_of "effect_of" = true)
    (k_effect_of : PySem.W.keepIn K (.ref f_effect_of) = true)
    (a_summary : PySem.W.nsIn K mainGlobals "summary" = some (some (.ref f_summary)))
    (l_summary : K.lookup f_summary = some ⟨oc_summary, od_summary, .func (PySem.W.fnOf "summary" "summary" (defArgs s_summary) (defBody s_summary) (defScope s_summary) .none kV_summary dc_summary pm_summary an_summary cd_summary ct_summary), sl_summary⟩)
    (c_summary : PySem.W.codeIn K cd_summary "summary" = true)
    (k_summary : PySem.W.keepIn K (.ref f_summary) = true)
    (a_telling_starts : PySem.W.nsIn K mainGlobals "telling_starts" = some (some (.ref f_telling_starts)))
    (l_telling_starts : K.lookup f_telling_starts = some ⟨oc_telling_starts, od_telling_starts, .func (PySem.W.fnOf "telling_starts" "telling_starts" (defArgs sTell) (defBody sTell) (defScope sTell) .none kV_telling_starts dc_telling_starts pm_telling_starts an_telling_starts cd_telling_starts ct_telling_starts), sl_telling_starts⟩)
    (c_telling_starts : PySem.W.codeIn K cd_telling_starts "telling_starts" = true)
    (k_telling_starts : PySem.W.keepIn K (.ref f_telling_starts) = true)
    (a_first_difference : PySem.W.nsIn K mainGlobals "first_difference" = some (some (.ref f_first_difference)))
    (l_first_difference : K.lookup f_first_difference = some ⟨oc_first_difference, od_first_difference, .func (PySem.W.fnOf "first_difference" "first_difference" (defArgs sFirst) (defBody sFirst) (defScope sFirst) .none kV_first_difference dc_first_difference pm_first_difference an_first_difference cd_first_difference ct_first_difference), sl_first_difference⟩)
    (c_first_difference : PySem.W.codeIn K cd_first_difference "first_difference" = true)
    (k_first_difference : PySem.W.keepIn K (.ref f_first_difference) = true)
    (a__law_other : PySem.W.nsIn K mainGlobals "_law_other" = some (some (.ref f__law_other)))
    (l__law_other : K.lookup f__law_other = some ⟨oc__law_other, od__law_other, .func (PySem.W.fnOf "_law_other" "_law_other" (defArgs sOther) (defBody sOther) (defScope sOther) .none kV__law_other dc__law_other pm__law_other an__law_other cd__law_other ct__law_other), sl__law_other⟩)
    (c__law_other : PySem.W.codeIn K cd__law_other "_law_other" = true)
    (k__law_other : PySem.W.keepIn K (.ref f__law_other) = true)
    (a__law_differ : PySem.W.nsIn K mainGlobals "_law_differ" = some (some (.ref f__law_differ)))
    (l__law_differ : K.lookup f__law_differ = some ⟨oc__law_differ, od__law_differ, .func (PySem.W.fnOf "_law_differ" "_law_differ" (defArgs sDiffer) (defBody sDiffer) (defScope sDiffer) .none kV__law_differ dc__law_differ pm__law_differ an__law_differ cd__law_differ ct__law_differ), sl__law_differ⟩)
    (c__law_differ : PySem.W.codeIn K cd__law_differ "_law_differ" = true)
    (k__law_differ : PySem.W.keepIn K (.ref f__law_differ) = true)
    (a_law : PySem.W.nsIn K mainGlobals "law" = some (some (.ref f_law)))
    (l_law : K.lookup f_law = some ⟨oc_law, od_law, .func (PySem.W.fnOf "law" "law" (defArgs sLaw) (defBody sLaw) (defScope sLaw) .none kV_law dc_law pm_law an_law cd_law ct_law), sl_law⟩)
    (c_law : PySem.W.codeIn K cd_law "law" = true)
    (k_law : PySem.W.keepIn K (.ref f_law) = true)
    (aC : PySem.W.nsIn K mainGlobals "Plan" = some (some (.ref C)))
    (aminit : PySem.W.findIn K (.ref C) "__init__" = some (some (.ref fminit)))
    (iminit : PySem.W.isFn K (.ref fminit) = true)
    (lminit : K.lookup fminit = some ⟨ocminit, odminit, .func (PySem.W.fnOf "__init__" "Plan.__init__" (defArgs sInit) (defBody sInit) (defScope sInit) .none kVminit dcminit pmminit anminit cdminit ctminit), slminit⟩)
    (cminit : PySem.W.codeIn K cdminit "Plan.__init__" = true)
    (kminit : PySem.W.keepIn K (.ref fminit) = true)
    (amjoined : PySem.W.findIn K (.ref C) "joined" = some (some (.ref fmjoined)))
    (imjoined : PySem.W.isFn K (.ref fmjoined) = true)
    (lmjoined : K.lookup fmjoined = some ⟨ocmjoined, odmjoined, .func (PySem.W.fnOf "joined" "Plan.joined" (defArgs sJoined) (defBody sJoined) (defScope sJoined) .none kVmjoined dcmjoined pmmjoined anmjoined cdmjoined ctmjoined), slmjoined⟩)
    (cmjoined : PySem.W.codeIn K cdmjoined "Plan.joined" = true)
    (kmjoined : PySem.W.keepIn K (.ref fmjoined) = true)
    (pA : PySem.W.findIn K (.ref C) "steps" = some (some (.ref pS)))
    (pG : PySem.W.specialIn K (.ref pS) "__get__" = some (some (.builtin "property.__get__")))
    (pT : PySem.W.takesIn K (.ref pS) = some true)
    (pR : PySem.W.recIn K pS "property" = some (.ref fmst :: rs))
    (lmst : K.lookup fmst = some ⟨ocmst, odmst, .func (PySem.W.fnOf "steps" "Plan.steps" (defArgs sSteps) (defBody sSteps) (defScope sSteps) .none kVmst dcmst pmmst anmst cdmst ctmst), slmst⟩)
    (cmst : PySem.W.codeIn K cdmst "Plan.steps" = true)
    (kmst : PySem.W.keepIn K (.ref fmst) = true)
    (pg : PySem.W.plainGet K C Str.empty = true)
    (hd : PySem.W.hasDictIn K C = true)
    (po : PySem.W.plainOver K C = true)
    (sa : PySem.W.findIn K (.ref C) "__setattr__" = some (some (.builtin "object.__setattr__")))
    (mk : PySem.W.makesIn K C = true)
    (kc : PySem.W.keepIn K (.ref C) = true)
    (nS : PySem.W.findIn K (.ref C) "step_tuple" = some none)
    (rd : PySem.W.readsIn K C (.type "type") = true)
    (ga : PySem.W.specialIn K (.ref C) "__getattribute__" = some (some (.builtin "type.__getattribute__")))
    (v1 : PySem.W.findCls K (.ref C) (.type "type") "MAX_STEPS" = some (.val (.int 60 t1)))
    (v2 : PySem.W.findCls K (.ref C) (.type "type") "MAX_CHAIRS" = some (.val (.int 1000000000000000000 t2)))
    (w2 : PySem.W.findIn K (.ref C) "MAX_CHAIRS" = some (some (.int 1000000000000000000 t3)))
    (w3 : PySem.W.specialIn K (.int 1000000000000000000 t3) "__get__" = some none)
    (aT : PySem.W.nsIn K mainGlobals "TURN" = some (some (.ref TU)))
    (lT : K.lookup TU = some ⟨.type "tuple", dT, .seq #[.str "turn" t4] nT, slT⟩)
    (z0 : PySem.W.nsIn K mainGlobals "isinstance" = some none)
    (z1 : PySem.W.nsIn K mainGlobals "int" = some none)
    (z2 : PySem.W.nsIn K mainGlobals "bool" = some none)
    (z3 : PySem.W.nsIn K mainGlobals "tuple" = some none)
    (z4 : PySem.W.nsIn K mainGlobals "list" = some none)
    (z5 : PySem.W.nsIn K mainGlobals "len" = some none)
    (z6 : PySem.W.nsIn K mainGlobals "max" = some none)
    (z7 : PySem.W.nsIn K mainGlobals "min" = some none)
    (z8 : PySem.W.nsIn K mainGlobals "abs" = some none)
    (z9 : PySem.W.nsIn K mainGlobals "enumerate" = some none)
    (z10 : PySem.W.nsIn K mainGlobals "range" = some none)
    (z11 : PySem.W.nsIn K mainGlobals "sum" = some none)
    (z12 : PySem.W.nsIn K mainGlobals "sorted" = some none)
    (z13 : PySem.W.nsIn K mainGlobals "divmod" = some none)
    (z14 : PySem.W.nsIn K mainGlobals "zip" = some none)
    (z15 : PySem.W.nsIn K mainGlobals "str" = some none)
    : ∃ fd : FuncData, (∀ (s : Shared) (v : Value), BindsTo s fd ⟨[v], []⟩ [("_law_script", v)]) ∧ ∀ base : Heap, K.In base → base.Ns mainGlobals mg → FnOk P w K mg base CX0 7 fa fd ["_law_script"] (spLaw K) := by
  have e := hfa.symm.trans (PySem.W.mg_of X G a_law)
  cases e
  have Bb : Bt mg := ⟨PySem.W.mg_none_of X G z0, PySem.W.mg_none_of X G z1, PySem.W.mg_none_of X G z2, PySem.W.mg_none_of X G z3, PySem.W.mg_none_of X G z4, PySem.W.mg_none_of X G z5, PySem.W.mg_none_of X G z6, PySem.W.mg_none_of X G z7, PySem.W.mg_none_of X G z8, PySem.W.mg_none_of X G z9, PySem.W.mg_none_of X G z10, PySem.W.mg_none_of X G z11, PySem.W.mg_none_of X G z12, PySem.W.mg_none_of X G z13, PySem.W.mg_none_of X G z14, PySem.W.mg_none_of X G z15⟩
  have F_is_whole := fun_mk (st := sIsWhole) l_is_whole c_is_whole k_is_whole
  have F_is_number := fun_mk (st := sIsNum) l_is_number c_is_number k_is_number
  have F_check_number := fun_mk (st := sChkNum) l_check_number c_check_number k_check_number
  have F_check_house := fun_mk (st := sChkHouse) l_check_house c_check_house k_check_house
  have F_is_step := fun_mk (st := sIsStep) l_is_step c_is_step k_is_step
  have F__law_start := fun_mk (st := sStart) l__law_start c__law_start k__law_start
  have F__law_drawn := fun_mk (st := sDrawn) l__law_drawn c__law_drawn k__law_drawn
  have F__law_random_steps := fun_mk (st := sRnd) l__law_random_steps c__law_random_steps k__law_random_steps
  have F__law_plan := fun_mk (st := sLPlan) l__law_plan c__law_plan k__law_plan
  have F__law_played := fun_mk (st := sPlayed) l__law_played c__law_played k__law_played
  have F_after_step := fun_mk (st := sAStep) l_after_step c_after_step k_after_step
  have F_after_steps := fun_mk (st := sASteps) l_after_steps c_after_steps k_after_steps
  have F_allowed_range := fun_mk (st := sAllow) l_allowed_range c_allowed_range k_allowed_range
  have F_narrowed := fun_mk (st := sNarrow) l_narrowed c_narrowed k_narrowed
  have F_nearest := fun_mk (st := sNear) l_nearest c_nearest k_nearest
  have F_effect_of := fun_mk (st := sEffect) l_effect_of c_effect_of k_effect_of
  have F_summary := fun_mk (st := s_summary) l_summary c_summary k_summary
  have F_telling_starts := fun_mk (st := sTell) l_telling_starts c_telling_starts k_telling_starts
  have F_first_difference := fun_mk (st := sFirst) l_first_difference c_first_difference k_first_difference
  have F__law_other := fun_mk (st := sOther) l__law_other c__law_other k__law_other
  have F__law_differ := fun_mk (st := sDiffer) l__law_differ c__law_differ k__law_differ
  have F_law := fun_mk (st := sLaw) l_law c_law k_law
  have Fminit := fun_mk (st := sInit) lminit cminit kminit
  have Fmjoined := fun_mk (st := sJoined) lmjoined cmjoined kmjoined
  have Fmst := fun_mk (st := sSteps) lmst cmst kmst
  have b_is_whole := F_is_whole.binds (ps := ["value"]) fun _ _ _ _ _ _ us hl => match us, hl with | [_], _ => rfl
  have b_is_number := F_is_number.binds (ps := ["value", "least", "most"]) fun _ _ _ _ _ _ us hl => match us, hl with | [_, _, _], _ => rfl
  have b_check_number := F_check_number.binds (ps := ["value", "least", "most"]) fun _ _ _ _ _ _ us hl => match us, hl with | [_, _, _], _ => rfl
  have b_check_house := F_check_house.binds (ps := ["plan", "chairs"]) fun _ _ _ _ _ _ us hl => match us, hl with | [_, _], _ => rfl
  have b_is_step := F_is_step.binds (ps := ["step"]) fun _ _ _ _ _ _ us hl => match us, hl with | [_], _ => rfl
  have b__law_start := F__law_start.binds (ps := ["_law_script"]) fun _ _ _ _ _ _ us hl => match us, hl with | [_], _ => rfl
  have b__law_drawn := F__law_drawn.binds (ps := ["_law_state", "_law_count"]) fun _ _ _ _ _ _ us hl => match us, hl with | [_, _], _ => rfl
  have b__law_random_steps := F__law_random_steps.binds (ps := ["_law_state", "_law_most", "_law_high"]) fun _ _ _ _ _ _ us hl => match us, hl with | [_, _, _], _ => rfl
  have b__law_plan := F__law_plan.binds (ps := ["_law_steps"]) fun _ _ _ _ _ _ us hl => match us, hl with | [_], _ => rfl
  have b__law_played := F__law_played.binds (ps := ["_law_steps", "_law_chairs", "_law_start_here"]) fun _ _ _ _ _ _ us hl => match us, hl with | [_, _, _], _ => rfl
  have b_after_step := F_after_step.binds (ps := ["step", "chairs", "red"]) fun _ _ _ _ _ _ us hl => match us, hl with | [_, _, _], _ => rfl
  have b_after_steps := F_after_steps.binds (ps := ["steps", "chairs", "red"]) fun _ _ _ _ _ _ us hl => match us, hl with | [_, _, _], _ => rfl
  have b_allowed_range := F_allowed_range.binds (ps := ["step", "chairs", "turned"]) fun _ _ _ _ _ _ us hl => match us, hl with | [_, _, _], _ => rfl
  have b_narrowed := F_narrowed.binds (ps := ["low", "high", "least", "most"]) fun _ _ _ _ _ _ us hl => match us, hl with | [_, _, _, _], _ => rfl
  have b_nearest := F_nearest.binds (ps := ["number", "least", "most"]) fun _ _ _ _ _ _ us hl => match us, hl with | [_, _, _], _ => rfl
  have b_effect_of := F_effect_of.binds (ps := ["steps", "chairs"]) fun _ _ _ _ _ _ us hl => match us, hl with | [_, _], _ => rfl
  have b_summary := F_summary.binds (ps := ["plan", "chairs"]) fun _ _ _ _ _ _ us hl => match us, hl with | [_, _], _ => rfl
  have b_telling_starts := F_telling_starts.binds (ps := ["plan", "other", "chairs"]) fun _ _ _ _ _ _ us hl => match us, hl with | [_, _, _], _ => rfl
  have b_first_difference := F_first_difference.binds (ps := ["plan", "other", "chairs"]) fun _ _ _ _ _ _ us hl => match us, hl with | [_, _, _], _ => rfl
  have b__law_other := F__law_other.binds (ps := ["_law_state", "_law_steps", "_law_high"]) fun _ _ _ _ _ _ us hl => match us, hl with | [_, _, _], _ => rfl
  have b__law_differ := F__law_differ.binds (ps := ["_law_one", "_law_other_here", "_law_chairs", "_law_start_here"]) fun _ _ _ _ _ _ us hl => match us, hl with | [_, _, _, _], _ => rfl
  have bmst := Fmst.binds (ps := ["self"]) fun _ _ _ _ _ _ us hl => match us, hl with | [_], _ => rfl
  have Tt : Txt K mg C TU pS fmst (.type "type") := ⟨Bb, ⟨pg, hd, po, sa⟩, nS, PySem.W.mg_of X G aC, ⟨rd, ga⟩, ⟨_, v1, _, rfl⟩, ⟨_, v2, _, rfl⟩, ⟨_, w2, ⟨_, rfl⟩, w3, rfl⟩, PySem.W.mg_of X G aT,
    fun H => .inr ⟨_, _, _, lT, rfl, rfl, by show 1 ≤ sizeLine; decide, .cons ⟨_, rfl⟩ .nil⟩, ⟨pA, pG, pT, rs, pR⟩⟩
  refine ⟨PySem.W.fnOf "law" "law" (defArgs sLaw) (defBody sLaw) (defScope sLaw) .none kV_law dc_law pm_law an_law cd_law ct_law, fun s v => .of_eq rfl, fun base _ _ => ?_⟩
  have at_ := fun {x : Str} {f : Addr} (a : PySem.W.nsIn K mainGlobals x = some (some (.ref f))) => PySem.W.mg_of X G a
  have Gg : Gs P w K mg base C fmst _ := ⟨ok_steps Fmst Tt, bmst⟩
  have Mm : Mk K C fminit := ⟨mk, aminit, iminit, kc⟩
  have Mj : Meth K C "joined" fmjoined := ⟨amjoined, imjoined, kmjoined⟩
  have D_is_whole := dn_mk (P := P) (w := w) (base := base) (at_ a_is_whole) k_is_whole (ok_iswhole F_is_whole Bb) b_is_whole
  have D_is_number := dn_mk (P := P) (w := w) (base := base) (at_ a_is_number) k_is_number (ok_isnum F_is_number D_is_whole) b_is_number
  have D_check_number := dn_mk (P := P) (w := w) (base := base) (at_ a_check_number) k_check_number (ok_chknum F_check_number D_is_number) b_check_number
  have D_check_house := dn_mk (P := P) (w := w) (base := base) (at_ a_check_house) k_check_house (ok_chkhouse F_check_house Tt Gg D_check_number) b_check_house
  have D_is_step := dn_mk (P := P) (w := w) (base := base) (at_ a_is_step) k_is_step (ok_isstep F_is_step Tt D_is_number) b_is_step
  have GI := ok_init Fminit Tt D_is_step
  have GJ := ok_joined Fmjoined Tt Gg Mm GI
  have D__law_start := dn_mk (P := P) (w := w) (base := base) (at_ a__law_start) k__law_start (ok_start F__law_start ) b__law_start
  have D__law_drawn := dn_mk (P := P) (w := w) (base := base) (at_ a__law_drawn) k__law_drawn (ok_drawn F__law_drawn Bb) b__law_drawn
  have D__law_random_steps := dn_mk (P := P) (w := w) (base := base) (at_ a__law_random_steps) k__law_random_steps (ok_rnd F__law_random_steps Bb D__law_drawn) b__law_random_steps
  have D__law_plan := dn_mk (P := P) (w := w) (base := base) (at_ a__law_plan) k__law_plan (ok_lplan F__law_plan Tt Mm GI Mj GJ) b__law_plan
  have D__law_played := dn_mk (P := P) (w := w) (base := base) (at_ a__law_played) k__law_played (ok_played F__law_played Bb) b__law_played
  have D_after_step := dn_mk (P := P) (w := w) (base := base) (at_ a_after_step) k_after_step (ok_astep F_after_step Tt) b_after_step
  have D_after_steps := dn_mk (P := P) (w := w) (base := base) (at_ a_after_steps) k_after_steps (ok_asteps F_after_steps D_after_step) b_after_steps
  have D_allowed_range := dn_mk (P := P) (w := w) (base := base) (at_ a_allowed_range) k_allowed_range (ok_allow F_allowed_range ) b_allowed_range
  have D_narrowed := dn_mk (P := P) (w := w) (base := base) (at_ a_narrowed) k_narrowed (ok_narrow F_narrowed Bb) b_narrowed
  have D_nearest := dn_mk (P := P) (w := w) (base := base) (at_ a_nearest) k_nearest (ok_near F_nearest Bb) b_nearest
  have D_effect_of := dn_mk (P := P) (w := w) (base := base) (at_ a_effect_of) k_effect_of (ok_effect F_effect_of Tt D_allowed_range D_narrowed D_nearest) b_effect_of
  have D_summary := dn_mk (P := P) (w := w) (base := base) (at_ a_summary) k_summary (ok_summary F_summary Tt Gg D_check_house D_effect_of) b_summary
  have D_telling_starts := dn_mk (P := P) (w := w) (base := base) (at_ a_telling_starts) k_telling_starts (ok_tell F_telling_starts Tt D_summary) b_telling_starts
  have D_first_difference := dn_mk (P := P) (w := w) (base := base) (at_ a_first_difference) k_first_difference (ok_first F_first_difference Tt Gg D_check_house D_telling_starts D_after_steps) b_first_difference
  have D__law_other := dn_mk (P := P) (w := w) (base := base) (at_ a__law_other) k__law_other (ok_other F__law_other Bb D__law_drawn D__law_random_steps) b__law_other
  have D__law_differ := dn_mk (P := P) (w := w) (base := base) (at_ a__law_differ) k__law_differ (ok_differ F__law_differ Bb D__law_played) b__law_differ
  exact ok_law F_law Bb D__law_start D__law_drawn D__law_random_steps D__law_plan D__law_other D_first_difference D__law_differ 
end Cc


open PySem PySem.W PyProof.Rows
set_option maxRecDepth 100000 in
set_option maxHeartbeats 0 in
theorem PySem.Challenge.cw_chaircarry_k05_first_difference_holds : PySem.Challenge.rw_chaircarry_k05_first_difference.Holds := by
  w_on; o_law; k_head; (case hw => w_witness2)
  k_fill
  refine L2.walk_of (l := PySem.Challenge.rw_chaircarry_k05_first_difference) (n := 63) (k := 7) (x := "_law_script") (CX := fun _ => L2.CX0) (sp := fun w => Cc.spLaw _) rfl (by decide) rfl ⟨rfl, by decide, by decide⟩ (fun w h Y => PySem.W.kIn_of Y) ?F (fun _ _ a ns hl hO hS => ⟨a, ns, rfl, Cc.sqF_of hS hO, hl, fun _ => rfl⟩) fun _ _ _ _ _ z => z
  case F =>
    intro w mg fa h KX G hmg
    refine' Cc.all_mk KX G hmg ?a_is_whole ?l_is_whole ?c_is_whole ?k_is_whole ?a_is_number ?l_is_number ?c_is_number ?k_is_number ?a_check_number ?l_check_number ?c_check_number ?k_check_number ?a_check_house ?l_check_house ?c_check_house ?k_check_house ?a_is_step ?l_is_step ?c_is_step ?k_is_step ?a__law_start ?l__law_start ?c__law_start ?k__law_start ?a__law_drawn ?l__law_drawn ?c__law_drawn ?k__law_drawn ?a__law_random_steps ?l__law_random_steps ?c__law_random_steps ?k__law_random_steps ?a__law_plan ?l__law_plan ?c__law_plan ?k__law_plan ?a__law_played ?l__law_played ?c__law_played ?k__law_played ?a_after_step ?l_after_step ?c_after_step ?k_after_step ?a_after_steps ?l_after_steps ?c_after_steps ?k_after_steps ?a_allowed_range ?l_allowed_range ?c_allowed_range ?k_allowed_range ?a_narrowed ?l_narrowed ?c_narrowed ?k_narrowed ?a_nearest ?l_nearest ?c_nearest ?k_nearest ?a_effect_of ?l_effect_of ?c_effect_of ?k_effect_of ?a_summary ?l_summary ?c_summary ?k_summary ?a_telling_starts ?l_telling_starts ?c_telling_starts ?k_telling_starts ?a_first_difference ?l_first_difference ?c_first_difference ?k_first_difference ?a__law_other ?l__law_other ?c__law_other ?k__law_other ?a__law_differ ?l__law_differ ?c__law_differ ?k__law_differ ?a_law ?l_law ?c_law ?k_law ?aC ?aminit ?iminit ?lminit ?cminit ?kminit ?amjoined ?imjoined ?lmjoined ?cmjoined ?kmjoined ?pA ?pG ?pT ?pR ?lmst ?cmst ?kmst ?pg ?hd ?po ?sa ?mk ?kc ?nS ?rd ?ga ?v1 ?v2 ?w2 ?w3 ?aT ?lT ?z0 ?z1 ?z2 ?z3 ?z4 ?z5 ?z6 ?z7 ?z8 ?z9 ?z10 ?z11 ?z12 ?z13 ?z14 ?z15
    (case a_is_whole => k_is); (case l_is_whole => k_is); (case c_is_whole => k_is); (case k_is_whole => k_is); (case a_is_number => k_is); (case l_is_number => k_is)
    (case c_is_number => k_is); (case k_is_number => k_is); (case a_check_number => k_is); (case l_check_number => k_is); (case c_check_number => k_is); (case k_check_number => k_is)
    (case a_check_house => k_is); (case l_check_house => k_is); (case c_check_house => k_is); (case k_check_house => k_is); (case a_is_step => k_is); (case l_is_step => k_is)
    (case c_is_step => k_is); (case k_is_step => k_is); (case a__law_start => k_is); (case l__law_start => k_is); (case c__law_start => k_is); (case k__law_start => k_is)
    (case a__law_drawn => k_is); (case l__law_drawn => k_is); (case c__law_drawn => k_is); (case k__law_drawn => k_is); (case a__law_random_steps => k_is); (case l__law_random_steps => k_is)
    (case c__law_random_steps => k_is); (case k__law_random_steps => k_is); (case a__law_plan => k_is); (case l__law_plan => k_is); (case c__law_plan => k_is); (case k__law_plan => k_is)
    (case a__law_played => k_is); (case l__law_played => k_is); (case c__law_played => k_is); (case k__law_played => k_is); (case a_after_step => k_is); (case l_after_step => k_is)
    (case c_after_step => k_is); (case k_after_step => k_is); (case a_after_steps => k_is); (case l_after_steps => k_is); (case c_after_steps => k_is); (case k_after_steps => k_is)
    (case a_allowed_range => k_is); (case l_allowed_range => k_is); (case c_allowed_range => k_is); (case k_allowed_range => k_is); (case a_narrowed => k_is); (case l_narrowed => k_is)
    (case c_narrowed => k_is); (case k_narrowed => k_is); (case a_nearest => k_is); (case l_nearest => k_is); (case c_nearest => k_is); (case k_nearest => k_is)
    (case a_effect_of => k_is); (case l_effect_of => k_is); (case c_effect_of => k_is); (case k_effect_of => k_is); (case a_summary => k_is); (case l_summary => k_is)
    (case c_summary => k_is); (case k_summary => k_is); (case a_telling_starts => k_is); (case l_telling_starts => k_is); (case c_telling_starts => k_is); (case k_telling_starts => k_is)
    (case a_first_difference => k_is); (case l_first_difference => k_is); (case c_first_difference => k_is); (case k_first_difference => k_is); (case a__law_other => k_is); (case l__law_other => k_is)
    (case c__law_other => k_is); (case k__law_other => k_is); (case a__law_differ => k_is); (case l__law_differ => k_is); (case c__law_differ => k_is); (case k__law_differ => k_is)
    (case a_law => k_is); (case l_law => k_is); (case c_law => k_is); (case k_law => k_is); (case aC => k_is); (case aminit => k_is)
    (case iminit => k_is); (case lminit => k_is); (case cminit => k_is); (case kminit => k_is); (case amjoined => k_is); (case imjoined => k_is)
    (case lmjoined => k_is); (case cmjoined => k_is); (case kmjoined => k_is); (case pA => k_is); (case pG => k_is); (case pT => k_is)
    (case pR => k_is); (case lmst => k_is); (case cmst => k_is); (case kmst => k_is); (case pg => k_is); (case hd => k_is)
    (case po => k_is); (case sa => k_is); (case mk => k_is); (case kc => k_is); (case nS => k_is); (case rd => k_is)
    (case ga => k_is); (case v1 => k_is); (case v2 => k_is); (case w2 => k_is); (case w3 => k_is); (case aT => k_is)
    (case lT => k_is); (case z0 => k_is); (case z1 => k_is); (case z2 => k_is); (case z3 => k_is); (case z4 => k_is)
    (case z5 => k_is); (case z6 => k_is); (case z7 => k_is); (case z8 => k_is); (case z9 => k_is); (case z10 => k_is)
    (case z11 => k_is); (case z12 => k_is); (case z13 => k_is); (case z14 => k_is); (case z15 => k_is)
#print axioms PySem.Challenge.cw_chaircarry_k05_first_difference_holds
