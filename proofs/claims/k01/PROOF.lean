import PyProof.Rows.All
import Wide.All
import OpenK.AllK
import Wide.FinOn
import HandS.ForMost
import HandS.Star
import HandS.Property
import HandS.ClsMeth
import HandS.IsInst
import HandS.Wide
import HandS.Walk
import HandS.TupAny
import KE.GoesEnum
import HandS.Style
import HandS.Flt
import HandS.Conv
import HandS.TupMul
import HandS.SetBool
import HandS.Strs
import HandS.WordsExc
import HandS.FStr
import HandS.ExcValue
import HandS.ExcSuper
import HandS.ExcField
import HandS.MakeKwOnly
import KE.KExcSuper
import KE.KSuper
import KE.DataFind
import HandS.Deep
import HandS.ExcIs
import HandS.GenList
import KE.KRevSl
import HandS.TryMany
import HandS.Lambda
import HandS.EndTab
import PySem.Challenge.RW_chaircarry_k01_invalid_plans_and_houses
set_option Elab.async false
set_option linter.all false
set_option maxRecDepth 100000
set_option maxHeartbeats 5000000
/-! Own rules: enumerate over a tuple, list.extend by a tuple, C( *xs), C() by a positional promise. -/
namespace Cc
open PySem PySem.Spec PyProof.Rows L2
/-! ### list.extend(tuple) -/
theorem extend_tup {prog : Program} {w : World} {A : Around} {Ez : Value → Shared → Prop} {s : Shared} {S it : Addr} {o : Obj} {xs items : Array Value} {n c₀ : Nat} {Qz : Fin → Shared → Prop}
    (kS : s.heap.get? S = some { cls := .type "list", data := .seq xs c₀ }) (ko : s.heap.get? it = some o) (kc : o.cls = .type "tuple") (kd : o.data = .seq items n)
    (kne : S ≠ it) (ksz : xs.size + items.size ≤ sizeLine)
    (hQ : Qz (.done (.ret .none)) { s with heap := s.heap.update S (Obj.mapSeq (· ++ items)) }) :
    wpAny (model prog w) A (Builtin.List.listExtendWith (.ref S) (.ref it) .none) Qz Ez s := by
  show wpAny _ A (Builtin.List.listExtendWith _ _ _) Qz Ez s; unfold Builtin.List.listExtendWith
  refine wpAny_bind (wpAny_typeOf ⟨o, ko, kc⟩ ?_)
  have g1 : (Builtin.List.listSameRef (.ref S) (.ref it) || Value.type "tuple" == Value.type "list" || Value.type "tuple" == Value.type "tuple") = true := by simp
  simp only [g1, if_true]
  refine wpAny_bind ?_
  unfold Builtin.List.listItems
  refine wpAny_bind (wpAny_seqItems ko kd (wpAny_pure ?_))
  refine wpAny_bind ?_
  refine wpAny_bind (wpAny_seqItems kS rfl (wpAny_pure ?_))
  have hdoor : (!xs.isEmpty && Builtin.List.listTooLong (xs.size + items.size)) = false := by rw [notLongL ksz, Bool.and_false]
  simp only [hdoor, Bool.false_eq_true, if_false]
  show wpAny _ A (updateSeq S (· ++ items) >>= fun _ => ret Value.none) _ _ s
  refine wpAny_bind (wpAny_updateSeq kS rfl ?_)
  exact wpAny_pure hQ
section
variable {X : Cx}
def rExtendT (K : PySem.W.Frag) : V → List V → Hp → VK → Prop := fun x vs Hh Qz => ∃ l b xs zs, x = .ref l ∧ vs = [.ref b] ∧ Hh l = some (.lst xs) ∧ SqT K Hh b zs ∧ xs.length + zs.length ≤ sizeLine ∧ Qz .non (upd Hh l (.lst (xs ++ zs)))
theorem mt_extendT : MtM X "list.extend" (rExtendT X.K) := by
  intro pz s sg Hh x vs v us Qz J rx rw1 h
  obtain ⟨l, b, xs, zs, rfl, rfl, kH, kB, kz, qz⟩ := h
  cases rx
  obtain ⟨u, rfl, ru⟩ := rw1.one
  cases ru
  obtain ⟨z, vz, n, r, kl, e⟩ := J.lstM kH
  obtain ⟨vz2, r2, ⟨o, ko, kc, n2, kd⟩, kz2⟩ := J.tuple kB
  have hl2 := r2.length
  have kne : l ≠ b := fun qz => by
    subst qz
    rw [e] at ko
    cases ko
    have hc' : Value.type "list" = Value.type "tuple" := kc
    injection hc' with g1
    exact absurd g1 (by decide)
  have ksz : vz.toArray.size + vz2.toArray.size ≤ sizeLine := by rw [List.size_toArray, List.size_toArray]; omega
  refine call_meets (S := fun _ R s' => s' = s ∧ R (.ok (.ret Value.none)) { s with heap := s.heap.update l (Obj.mapSeq fun x => x ++ vz2.toArray) }) F.slot_list_extend ⟨_, e, rfl⟩ F.entry_list_extend (F.args_list_extend_2 _ _) ?_ ⟨rfl, ?_⟩
  · refine .of_wp fun prog w A R s' h => ?_
    obtain ⟨ks, h⟩ := h
    subst ks
    exact extend_tup e ko kc kd kne ksz ⟨_, rfl, h⟩
  · refine ⟨.non, _, J.lset (its' := vz ++ vz2) kH e (by simp) (r.append r2) ?_, rfl, qz⟩
    rw [List.length_append]
    omega
end
/-! ### enumerate(tuple) -/
/-- the enumerate object over the iterator at i -/
abbrev eOb (i : Addr) : Obj := { cls := .type "enumerate", data := .fields #[.none, .bool false, .ref i, rawInt 0, .none, .none] }
theorem meets_enum1 {v : Value} {o : Obj} {Hh : Heap → Prop} (Bz : Begins v o Hh) :
    Meets (Builtin.«enumerate.__new__» ⟨[.type "enumerate", v], []⟩) (fun _ R s => Hh s.heap ∧
      R (.ok (.ret (.ref (s.heap.push o).objs.size))) { s with heap := (s.heap.push o).push (eOb s.heap.objs.size) }) :=
  .of_wp fun pp ww A R s h => by
    obtain ⟨hp, g, d, tk, os⟩ := s; obtain ⟨g1, h⟩ := h
    have hsub := sub_enumerate
    have qz1 : ∀ {A' : Around} {Ez : Value → Shared → Prop} {Qz : Value → Shared → Prop}, Qz (.ref hp.objs.size) ⟨hp.push o, g, d, tk, os⟩ → wpAny (model pp ww) A' (pyIter v) Qz Ez ⟨hp, g, d, tk, os⟩ :=
      fun qz => Bz.iter pp ww _ _ ⟨hp, g, d, tk, os⟩ _ g1 qz
    wp_walk using qz1
    refine wpAny_stack_any fun zs => wpAny_pure ?_
    split
    · rename_i cz _ _ _ _ _
      cases (cz == Value.type "enumerate")
      · wp_walk using qz1
        exact ⟨_, rfl, h⟩
      · wp_walk using qz1
        exact ⟨_, rfl, h⟩
    · wp_walk using qz1
      exact ⟨_, rfl, h⟩
section
variable {prog : Program} {w : World} {A : Around} {Ez : Value → Shared → Prop} {s : Shared}
theorem call_enum1 {v : Value} {o : Obj} {Hh : Heap → Prop} {Qz : Value → Shared → Prop} (Bz : Begins v o Hh) (g1 : Hh s.heap)
    (h : ∀ h', IsEnum h' (s.heap.objs.size + 1) s.heap.objs.size 0 .none → h'.get? s.heap.objs.size = some o → h'.objs.size = s.heap.objs.size + 2 →
      (∀ b o, s.heap.get? b = some o → h'.get? b = some o) → Qz (.ref (s.heap.objs.size + 1)) { s with heap := h' }) :
    wpAny (model prog w) A (call (.type "enumerate") [v]) Qz Ez s := by
  have kz := Heap.size_push s.heap o
  have ke : IsEnum ((s.heap.push o).push (eOb s.heap.objs.size)) (s.heap.objs.size + 1) s.heap.objs.size 0 .none := kz ▸ Heap.get?_push_size (s.heap.push o) (o := eOb s.heap.objs.size) rfl
  refine callType_new F.called_enumerate (by decide)
    (F.typeCall_enumerate_1 _) (F.newCall_enumerate_1 _) (fun z => F.args_object_init_2 z _)
    F.entry_enumerate_new (meets_enum1 Bz) ⟨g1, ?_⟩
  show _ ∧ _
  rw [kz]
  refine ⟨⟨_, ke, rfl⟩, h _ ke (Heap.get?_push_of_some _ (Heap.get?_push_size _ Bz.free)) (by rw [Heap.size_push, kz]) fun b o x => Heap.get?_push_of_some _ (Heap.get?_push_of_some _ x)⟩
end
section
variable {prog : Program} {w : World} {A : Around} {Ez : Value → Shared → Prop} {s : Shared}
theorem pyNext_enum_end {e it t : Addr} {i : Nat} {items : Array Value} {c : Int} {olz : Value} {Qz : Option Value → Shared → Prop} (kx : items[i]? = none)
    (kh : A.in1.handled = none) (ke : IsEnum s.heap e it c olz) (kit : s.heap.IsTupleIter it t i) (ht : s.heap.IsTuple t items)
    (hQ : ∀ h', Heap.ExtBut it s.heap h' → Qz none { s with heap := h' }) : wpAny (model prog w) A (pyNext (.ref e)) Qz Ez s := by
  have kT : s.TypeIs (.ref e) "enumerate" := ⟨_, ke, rfl⟩
  unfold pyNext
  refine wpAny_bind (wpAny_attempt (wpAny_callSpecial?_slot (name := Str.ofString "__next__") kT F.slot_enumerate_next
    (wpAny_call_entry F.slot_enumerate_next kT F.entry_enumerate_next ?_ (F.args_enumerate_next_1 _))))
  show wpAny _ _ (field (Value.ref e) 2 >>= _) _ _ s
  refine wpAny_bind (wpAny_field ke rfl (x := .ref it) rfl ?_)
  refine wpAny_bind (wpAny_nextOf_tuple_end kh kit ht kx fun h' x ke' hx' => ?_)
  obtain ⟨o, ko, kc⟩ := hx'
  refine wpAny_bind (wpAny_isInstance (T := "StopIteration") (b := true) ⟨o, ko, kc⟩ isSubtype_stop ?_)
  exact wpAny_pure (hQ _ ke')
end
/-- the tuple at a, each item in a nw pair -/
def IteT (K : PySem.W.Frag) (a : Addr) : It :=
  ⟨fun i Hh => ∃ (xs : List V) (x : V), SqT K Hh a xs ∧ xs[i]? = some x, fun i Hh v H' => ∃ T x, v = .ref T ∧ Hh T = none ∧ H' = upd Hh T (.tup [.int (i : Nat), x]) ∧ ∀ xs, SqT K Hh a xs → xs[i]? = some x, fun i Hh => ∃ xs : List V, SqT K Hh a xs ∧ xs.length ≤ i⟩
theorem turn_enumT {P : Program} {w : World} {K : PySem.W.Frag} {elts : List Expr} {kk : Nat} {tpos : Pos} (a e it : Addr) :
    Turn P w K (.Tuple elts kk tpos) (IteT K a) [e, it] e (fun i h => (∃ olz, IsEnum h e it ((i : Nat) : Int) olz) ∧ h.IsTupleIter it a i ∧ e ≠ it ∧ a ≠ e ∧ a ≠ it) where
  mem := by simp
  obj := fun i h st b kb => by
    obtain ⟨⟨olz, ke⟩, ⟨o, ko, kc, kd⟩, _⟩ := st
    have ee : b = e ∨ b = it := by simpa using kb
    rcases ee with z | z
    · rw [z]; exact ⟨_, ke, fun v qz => nomatch qz⟩
    · rw [z]; exact ⟨o, ko, fun v qz => by rw [kd] at qz; cases qz⟩
  keep := fun i h h' st k => let ⟨⟨olz, ke⟩, hi, kne⟩ := st; ⟨⟨olz, k e (by simp) _ ke⟩, hi.at fun o qz => k it (by simp) o qz, kne⟩
  item := by
    intro X kP kw kK kc i pz s sg Hh Ez J kf st kg
    subst kP kw kK
    obtain ⟨⟨olz, ke⟩, kit, kne, kae, kai⟩ := st
    obtain ⟨xs, x, kq, kx⟩ := kg
    obtain ⟨vz, rw1, p, kz⟩ := J.tuple kq
    have kel : e < s.heap.objs.size := Heap.lt_size ke
    have kil : it < s.heap.objs.size := by obtain ⟨_, qz, _⟩ := kit; exact Heap.lt_size qz
    have hix : i < vz.toArray.size := by
      have := rw1.length
      have h2 := (List.getElem?_eq_some_iff.mp kx).1
      rw [List.size_toArray]
      omega
    have Dz := Draws.tuple (prog := X.prog) (w := X.w) (A := X.A.in1) (show X.A.in1.handled = none from J.ok.hd kc) it a kai vz.toArray
    refine wpAny_pyNext_enum_itemD Dz ke ⟨kit, p⟩ hix kne (by simp [kne, Ne.symm kae]) fun u h' tk ku ko hit' kT ksz kk => ?_
    have ru : RelV x u := by
      obtain ⟨u2, hu2, r2⟩ := rw1.get kx
      have e3 : u2 = u := by
        have ku' : vz[i]? = some u := by simpa using ku
        exact Option.some.inj (hu2.symm.trans ku')
      exact e3 ▸ r2
    refine ⟨_, rfl, wpAny_letOwnedTupleGo_enum (s := { s with heap := h', toks := tk + 1 }) ko fun h'' ke' sbz => ?_⟩
    have kT2 : h''.get? s.heap.objs.size = some { cls := .type "tuple", data := .seq #[.int i tk, u] } := (sbz.2 _ (Nat.ne_of_gt kel)).trans kT
    have nw : ObjOk X.prog X.w (upd Hh s.heap.objs.size (.tup [.int (i : Nat), x])) h'' s.heap.objs.size (.tup [.int (i : Nat), x]) :=
      ⟨by show 2 ≤ sizeLine; decide, [.int i tk, u], .cons ⟨_, rfl⟩ (.cons ru .nil), ⟨_, kT2, rfl, _, rfl⟩⟩
    have J1 : Inv X pz sg (upd Hh s.heap.objs.size (.tup [.int (i : Nat), x])) { s with heap := h'', toks := tk + 1 } :=
      J.turnedNew (ch := [e, it]) (fun b ob kb qz => (sbz.2 b (fun z => kb (by simp [z]))).trans (kk b ob (fun z => kb (by simp [z])) (fun z => kb (by simp [z])) qz)) kf (Nat.le_refl _) nw
    refine ⟨.ref s.heap.objs.size, _, J1, rfl, ⟨_, x, rfl, J.hok.fresh (Nat.le_refl _), rfl, fun ys hy => by rw [J.tuple_inj hy kq]; exact kx⟩, ⟨⟨u, ?_⟩, hit'.1.at fun o qz => (sbz.2 it (Ne.symm kne)).trans qz, kne, kae, kai⟩, fun b kb => ?_⟩
    · have e1 : (((i + 1 : Nat)) : Int) = (i : Int) + 1 := by omega
      rw [e1]; exact ke'
    · have kb' : b < s.heap.objs.size := by
        have ee : b = e ∨ b = it := by simpa using kb
        rcases ee with z | z
        · rw [z]; exact kel
        · rw [z]; exact kil
      rw [upd_ne (Nat.ne_of_lt kb')]
      exact (kf b kb).1
  done := by
    intro X kP kw kK kc i pz s sg Hh Ez J kf st kg
    subst kP kw kK
    obtain ⟨⟨olz, ke⟩, kit, kne, kae, kai⟩ := st
    obtain ⟨xs, kq, kx⟩ := kg
    obtain ⟨vz, rw1, p, kz⟩ := J.tuple kq
    obtain ⟨f0, f1, f2, f3, f4, f5⟩ := kf it (by simp)
    have hl := rw1.length
    exact pyNext_enum_end (by simp; omega) (show X.A.in1.handled = none from J.ok.hd kc) ke kit p fun h' eb => ⟨rfl, J.turned (t' := s.toks) (fun b o kb qz => eb b o kb qz) f0 f1 f3 f4 f5⟩
  self := fun A i s Qz Ez st h => let ⟨⟨_, ke⟩, _⟩ := st; wpAny_pyIter_enum ke h
def iEnumT (K : PySem.W.Frag) (ta : TA) : TI := fun sg Hh R => ta sg Hh fun vs H1 => ∃ a xs, vs = [.ref a] ∧ SqT K H1 a xs ∧ R (IteT K a) H1
theorem pi_enumT {X : Cx} {e : Expr} {ta : TA} {p pos tpos : Pos} {elts : List Expr} {kk : Nat} (kg : Gl X "enumerate") (km : X.mg "enumerate" = none) (ka : PA X [e] ta) (ks : starEach [e] X.env = [(false, eval e X.env)] := by rfl) :
    PI X (.Tuple elts kk tpos) (.Call (.Name "enumerate" p) [e] [] pos) (iEnumT X.K ta) := by
  refine ⟨fun pz s sg Hh R J h => ?_⟩
  refine Call_ (ld_blt J kg km boot_enumerate (PyProof.Rows.callWith_type1 (thn (ka.run pos pz s sg Hh _ J h) fun us s1 ⟨vs, H1, J1, r1, qz1⟩ => ?_) ks rfl))
  obtain ⟨a, xs, ex, kq, qz⟩ := qz1
  subst ex
  cases r1 with
  | cons r rr =>
    cases rr
    cases r
    obtain ⟨vz, rw1, p', kz⟩ := J1.tuple kq
    have hal : a < s1.heap.objs.size := p'.lt
    refine call_enum1 (begins_tuple a vz.toArray) p' fun h' ke kit ksz kk => wpAny_pyIter_enum ke ?_
    have J2 : Inv X pz sg H1 { s1 with heap := h' } := J1.kept (t' := s1.toks) kk
    refine ⟨s1.heap.objs.size + 1, [s1.heap.objs.size + 1, s1.heap.objs.size], _, _, H1, rfl, J2, turn_enumT a (s1.heap.objs.size + 1) s1.heap.objs.size, ⟨⟨.none, ke⟩, ⟨_, kit, rfl, rfl⟩, Nat.succ_ne_self _, Nat.ne_of_lt (Nat.lt_succ_of_lt hal), Nat.ne_of_lt hal⟩, fun b kb => ?_, qz⟩
    have ee : b = s1.heap.objs.size + 1 ∨ b = s1.heap.objs.size := by simpa using kb
    have kle : s1.heap.objs.size ≤ b := by
      rcases ee with z | z
      · subst z; exact Nat.le_succ _
      · rw [z]; exact Nat.le_refl _
    exact J1.fpOk kle (J1.hok.fresh kle)
theorem walk_enumT {K : PySem.W.Frag} {a : Addr} {xs : List V} : Walk (IteT K a) xs.length (fun Hh => SqT K Hh a xs) (YPair (fun i => some (.int (i : Nat))) (fun i => xs[i]?)) := by
  refine ⟨fun i _ hi qz => ⟨xs, xs[i], qz, by simp [hi]⟩, fun _ qz => ⟨xs, qz, Nat.le_refl _⟩, fun i Hh v H' _ qz y => ?_⟩
  obtain ⟨T, x, g1, g2, g3, g4⟩ := y
  exact ⟨T, .int (i : Nat), x, g1, g2, g3, rfl, g4 xs qz⟩
/-! ### C( *xs), C() by a positional promise -/
def tMakeS (K : PySem.W.Frag) (C : Addr) (sp : Sp) (Ez : XK) (te : TE) : TE := fun sg Hh Qz => te sg Hh fun y H1 => ∃ a xs, y = V.ref a ∧ (SqT K H1 a xs ∨ SqL K H1 a xs) ∧ ∀ x dx, H1 x = Option.none → H1 dx = Option.none → dx ≠ x →
  sp (V.ref x :: xs) (upd (upd H1 dx (.own x)) x (.ins C dx [])) (fun v H2 => v = .non ∧ Qz (.ref x) H2) Ez
section
variable {X : Cx} {CX : CXT} {k : Nat} {f C : Addr} {sp : Sp} {Ez : XK} {x : Str} {e : Expr} {te : TE} {p sp_ pos : Pos}
theorem pe_makeS (M : Mk X.K C f) (F : FnR X.prog X.w X.K X.mg X.base CX k f sp) (kr : Room (k + 1) X.A) (kg : Gl X x) (km : X.mg x = some (.ref C)) (kx : Passes CX X Ez) (ke : PE X e te) (kdb : (x == ("__debug__" : Str)) = false := by decide)
    (kst : starEach [.Starred e sp_] X.env = [(true, eval e X.env)] := by rfl) : PE X (.Call (.Name x p) [.Starred e sp_] [] pos) (tMakeS X.K C sp Ez te) := by
  refine ⟨fun pz s sg Hh Qz J h => ?_⟩
  refine wpAny_Call_Name_kw (ld_glob J kg km ?_ kdb)
  refine PySem.W.callWith_S (h₀ := X.base) J.ok.mod.kin M.kp (thn (ke.run pz s sg Hh _ J h) fun v s1 ⟨y, H1, J1, ry, a, xs, ey, kxs, qz⟩ => ?_) kst
  subst ey
  cases (show v = Value.ref a from ry)
  exact StX.star_any J1 kxs fun us s2 J2 rw1 => ⟨J2.kIn, StX.run_makeR M F kr kx J2 rw1 qz⟩
theorem pe_makeR0 (M : Mk X.K C f) (F : FnR X.prog X.w X.K X.mg X.base CX k f sp) (kr : Room (k + 1) X.A) (kg : Gl X x) (km : X.mg x = some (.ref C)) (kx : Passes CX X Ez) (kdb : (x == ("__debug__" : Str)) = false := by decide) :
    PE X (.Call (.Name x p) [] [] pos) (StX.tMakeR C sp Ez tNil) := by
  refine ⟨fun pz s sg Hh Qz J h => ?_⟩
  refine wpAny_Call_Name_kw (ld_glob J kg km ?_ kdb)
  exact PySem.W.callWith_K0 J.kIn M.kp (StX.run_makeR (us := []) M F kr kx J .nil h)
end
/-! ### f(e, ..) by a positional promise -/
section
variable {X : Cx} {CX : CXT} {k : Nat} {f : Addr} {sp : Sp} {Ez : XK} {x : Str} {e : Expr} {es : List Expr} {t : TA} {p pos : Pos}
theorem pe_callR (F : FnR X.prog X.w X.K X.mg X.base CX k f sp) (kr : Room k X.A) (kg : Gl X x) (km : X.mg x = some (.ref f)) (kk : PySem.W.keepIn X.K (.ref f) = true) (kx : Passes CX X Ez) (ka : PA X (e :: es) t) (kdb : (x == ("__debug__" : Str)) = false := by decide)
    (ke : starEach (e :: es) X.env = (false, eval e X.env) :: starEach es X.env := by rfl) (kpl : (backTo pos (starEach es X.env)).any (·.1) = false := by rfl) :
    PE X (.Call (.Name x p) (e :: es) [] pos) (fun sg Hh Qz => t sg Hh fun vs H1 => sp vs H1 Qz Ez) := by
  refine ⟨fun pz s sg Hh Qz J h => ?_⟩
  refine wpAny_Call_Name_kw (ld_glob J kg km ?_ kdb)
  refine PySem.W.callWith_K (h₀ := X.base) J.ok.mod.kin kk (thn (ka.run pos pz s sg Hh _ J h) fun us s1 ⟨vs, H1, J1, r, qz⟩ => ⟨J1.kIn, ?_⟩) ke kpl
  exact wpAny_call (run_fnR F kr kx J1 r qz)
end
/-- a def of the module as a callee: where it is, that it is kept, vz promise -/
structure Dn (P : Program) (w : World) (K : PySem.W.Frag) (mg : Str → Option Value) (base : Heap) (k : Nat) (x : Str) (f : Addr) (sp : Sp) : Prop where
  at_ : mg x = some (.ref f)
  kp : PySem.W.keepIn K (Value.ref f) = true
  ok : FnR P w K mg base CX0 k f sp
/-! ### *steps: the tuple that a call lays is locked -/
section
variable {CX : CXT} {P : Program} {w : World} {K : PySem.W.Frag} {mg : Str → Option Value} {base : Heap} {k : Nat} {f : Addr} {name qual : Str} {params : Arguments} {body : List Stmt} {scope : Scope} {dV kV doc pm cdv ct oc : Value} {an od : Option Addr} {osl : Array (Option Value)} {N ps : List Str} {sp : Sp} {pv : Str}
theorem fn_starZ (lk : K.lookup f = some ⟨oc, od, .func (PySem.W.fnOf name qual params body scope dV kV doc pm an cdv ct), osl⟩) (hcd : PySem.W.codeIn K cdv qual = true) (S : FnScope N (ps ++ [pv]) scope) (hCX : StX.CXUp CX)
    (hb : ∀ us rest : List Value, us.length = ps.length → bindArgs (PySem.W.fnOf name qual params body scope dV kV doc pm an cdv ct) ⟨us ++ rest, []⟩ = (newTuple rest >>= fun t => pure (ps.zip us ++ [(pv, t)]))) (hy : ∀ (A : Around) (outer : List Env) (s : Shared) (H : Hp) (vs : List V) (Q : VK) (E : XK), Room k (A.deeper (envOfC qual scope s.heap.objs.size f cdv)) → sp vs H Q E → ∃ t, PSs (cxOf CX P w K mg base N qual scope f cdv A outer s H E) body t ∧ t { nx := fun _ H' => Q .non H', rt := Q } (L2.start N vs) H) :
    FnR P w K mg base CX (k + 1) f (fun vs H Q E => ∃ ws rest, vs = ws ++ rest ∧ ws.length = ps.length ∧ rest.length ≤ sizeLine ∧ ∀ (p : Addr) (ob : Obj), H p = Option.none → ob.dict = Option.none → sp (ws ++ [V.ref p]) (upd H p (.frz ob (.tup rest))) Q E) := by
  rintro A outer s H us vs Q E hr e0 r ⟨ws, rest, rfl, hl, hz, hq⟩
  obtain ⟨u1, u2, rfl, r1, r2⟩ := StX.vals_split r
  have hn : H s.heap.objs.size = Option.none := e0.hok.fresh (Nat.le_refl _); have l1 : u1.length = ps.length := r1.length.symm.trans hl
  have l2 : u2.length ≤ sizeLine := (by rw [← r2.length]; exact hz)
  refine StX.run_bnd lk hcd S hr e0 (G := fun xs H2 => ∃ (p : Addr) (ob : Obj), H p = Option.none ∧ ob.dict = Option.none ∧ xs = ws ++ [V.ref p] ∧ H2 = upd H p (.frz ob (.tup rest))) (fun A' Ex Q' h => ?_) fun s2 H2 xs ⟨p, ob, hp, hd, ex, eH⟩ hr' => ?_
  · rw [hb u1 u2 l1]
    refine wpAny_bind (wpAny_newTuple (wpAny_pure ?_) l2)
    have at_ : (s.heap.push ({ cls := .type "tuple", data := .seq u2.toArray } : Obj)).get? s.heap.objs.size = some { cls := .type "tuple", data := .seq u2.toArray } := Heap.get?_push_size _ rfl
    have new : ObjOk P w (upd H s.heap.objs.size (.frz { cls := .type "tuple", data := .seq u2.toArray } (.tup rest))) (s.heap.push ({ cls := .type "tuple", data := .seq u2.toArray } : Obj)) s.heap.objs.size (.frz { cls := .type "tuple", data := .seq u2.toArray } (.tup rest)) :=
      ⟨at_, hz, u2, r2, ⟨_, at_, rfl, _, rfl⟩⟩
    have un := StX.un_laid (fs := frs outer) (s := s) (o := ({ cls := .type "tuple", data := .seq u2.toArray } : Obj)) (u := .frz { cls := .type "tuple", data := .seq u2.toArray } (.tup rest)) hn
    have z := h _ _ (ws ++ [V.ref s.heap.objs.size]) (u1 ++ [Value.ref s.heap.objs.size]) (StX.env0_laid e0 new) un rfl (fun e s' => hCX outer s H _ _ E e s' un (fun b o q => Heap.get?_push_of_some _ q) rfl) (r1.append (.cons rfl .nil))
      (by rw [List.length_append, List.length_append, hl] <;> rfl) ⟨_, { cls := .type "tuple", data := .seq u2.toArray }, hn, rfl, rfl, rfl⟩
    rw [List.zip_append l1.symm] at z
    exact z
  · subst ex eH
    exact hy A outer s2 _ _ Q E hr' (hq p ob hp hd)
end
end Cc

/-! The data (steps, plans, the drawing's state over the heap) and the mathematics. -/
namespace Cc
open PySem PySem.Spec PyProof.Rows L2
/-! ### steps -/
inductive Stp where
  | turn
  | meet (red : Bool) (n : Int)
def roomS (b : Bool) : Str := if b then "red" else "blue"
def stpV : Stp → List V
  | .turn => [.str "turn"]
  | .meet b n => [.str (roomS b), .int n]
def Stp.ok (c : Int) : Stp → Prop
  | .turn => True
  | .meet _ n => 0 ≤ n ∧ n ≤ c
theorem Stp.ok.mono {s : Stp} {c d : Int} (h : s.ok c) (hd : c ≤ d) : s.ok d := by
  cases s with
  | turn => trivial
  | meet b n => exact ⟨h.1, Int.le_trans h.2 hd⟩
def mx (i j : Int) : Int := if j > i then j else i
theorem mx_eq (i j : Int) : mx i j = max i j := by unfold mx; omega
/-- what a step leaves in the red room, and carries: the code's own way -/
def stepF (c : Int) (s : Stp) (r : Int) : Int × Int := match s with
  | .turn => (c - r, 0)
  | .meet true n => (r + mx 0 (n - r), mx 0 (n - r))
  | .meet false n => (r - mx 0 (n - (c - r)), mx 0 (n - (c - r)))
/-- steps: the red room, the sum -/
def stepsF (c : Int) : List Stp → Int × Int → Int × Int
  | [], x => x
  | s :: ss, x => stepsF c ss ((stepF c s x.1).1, x.2 + (stepF c s x.1).2)
theorem stepsF_app (c : Int) : ∀ (a b : List Stp) (x : Int × Int), stepsF c (a ++ b) x = stepsF c b (stepsF c a x)
  | [], _, _ => rfl
  | s :: a, b, x => by
    show stepsF c (a ++ b) _ = stepsF c b (stepsF c a _)
    exact stepsF_app c a b _
theorem stepsF_one (c : Int) (a : List Stp) (s : Stp) (x : Int × Int) : stepsF c (a ++ [s]) x = ((stepF c s (stepsF c a x).1).1, (stepsF c a x).2 + (stepF c s (stepsF c a x).1).2) := by
  rw [stepsF_app]
  rfl
theorem stepsF_add (c : Int) : ∀ (a : List Stp) (r t : Int), stepsF c a (r, t) = ((stepsF c a (r, 0)).1, t + (stepsF c a (r, 0)).2)
  | [], r, t => by simp [stepsF]
  | s :: a, r, t => by
    show stepsF c a _ = ((stepsF c a _).1, t + (stepsF c a _).2)
    rw [stepsF_add c a (stepF c s r).1 (t + (stepF c s r).2), stepsF_add c a (stepF c s r).1 (0 + (stepF c s r).2)]
    simp only [Prod.mk.injEq, true_and]
    omega
theorem take_more {α : Type} : ∀ {l : List α} {i : Nat} {x : α}, l[i]? = some x → l.take (i + 1) = l.take i ++ [x]
  | [], i, x, h => by simp at h
  | a :: l, 0, x, h => by
    have e : a = x := Option.some.inj h
    subst e
    rfl
  | a :: l, i + 1, x, h => by
    have ih := take_more (l := l) (i := i) (x := x) h
    show a :: l.take (i + 1) = a :: l.take i ++ [x]
    rw [ih]
    rfl
/-- the red room stays within the house -/
theorem stepF_in {c : Int} {s : Stp} {r : Int} (hs : s.ok c) (h0 : 0 ≤ r) (h1 : r ≤ c) : 0 ≤ (stepF c s r).1 ∧ (stepF c s r).1 ≤ c ∧ 0 ≤ (stepF c s r).2 ∧ (stepF c s r).2 ≤ c := by
  cases s with
  | turn => simp only [stepF]; omega
  | meet b n =>
    obtain ⟨h2, h3⟩ := hs
    cases b <;> simp only [stepF, mx] <;> split <;> omega
theorem stepsF_in {c : Int} : ∀ {ss : List Stp} {r t : Int}, (∀ s ∈ ss, s.ok c) → 0 ≤ r → r ≤ c → 0 ≤ t → 0 ≤ (stepsF c ss (r, t)).1 ∧ (stepsF c ss (r, t)).1 ≤ c ∧ 0 ≤ (stepsF c ss (r, t)).2
  | [], r, t, _, h0, h1, ht => ⟨h0, h1, ht⟩
  | s :: ss, r, t, hs, h0, h1, ht => by
    obtain ⟨a, b, d, _⟩ := stepF_in (hs s List.mem_cons_self) h0 h1
    exact stepsF_in (ss := ss) (fun x hx => hs x (List.mem_cons_of_mem _ hx)) a b (by show 0 ≤ t + (stepF c s r).2; omega)
/-- rounds -/
def roundsF (c : Int) (ss : List Stp) : Nat → Int × Int → Int × Int
  | 0, x => x
  | n + 1, x => roundsF c ss n (stepsF c ss x)
theorem roundsF_succ (c : Int) (ss : List Stp) : ∀ (n : Nat) (x : Int × Int), roundsF c ss (n + 1) x = stepsF c ss (roundsF c ss n x)
  | 0, x => rfl
  | n + 1, x => by
    show roundsF c ss (n + 1) (stepsF c ss x) = _
    rw [roundsF_succ c ss n (stepsF c ss x)]
    rfl
theorem roundsF_in {c : Int} {ss : List Stp} (hs : ∀ s ∈ ss, s.ok c) : ∀ {n : Nat} {r t : Int}, 0 ≤ r → r ≤ c → 0 ≤ t → 0 ≤ (roundsF c ss n (r, t)).1 ∧ (roundsF c ss n (r, t)).1 ≤ c ∧ 0 ≤ (roundsF c ss n (r, t)).2
  | 0, r, t, h0, h1, ht => ⟨h0, h1, ht⟩
  | n + 1, r, t, h0, h1, ht => by
    rw [roundsF_succ]
    obtain ⟨a, b, d⟩ := roundsF_in hs (n := n) h0 h1 ht
    exact stepsF_in hs a b d
/-- behind n rounds -/
def afterF (c : Int) (ss : List Stp) (r : Int) (n : Nat) : Int × Int := roundsF c ss n (r, 0)

/-! ### steps over the heap -/
def StepAt (H : Hp) (v : V) (s : Stp) : Prop := ∃ t, v = .ref t ∧ H t = some (.tup (stpV s))
def Steps (H : Hp) (vs : List V) (ss : List Stp) : Prop := Paired (StepAt H) vs ss
theorem Steps.get {H : Hp} : ∀ {vs : List V} {ss : List Stp} {i : Nat} {v : V}, Steps H vs ss → vs[i]? = some v → ∃ s, ss[i]? = some s ∧ StepAt H v s
  | [], [], i, v, .nil, e => by simp at e
  | _, _, 0, v, .cons r _, e => by
    have e' : _ = v := Option.some.inj e
    subst e'
    exact ⟨_, rfl, r⟩
  | _, _, i + 1, v, .cons _ t, e => by
    obtain ⟨s, h1, h2⟩ := Steps.get (i := i) (v := v) t e
    exact ⟨s, h1, h2⟩
theorem Steps.length {H : Hp} {vs : List V} {ss : List Stp} (h : Steps H vs ss) : vs.length = ss.length := Paired.length h
theorem Steps.append {H : Hp} : ∀ {vs ws : List V} {ss us : List Stp}, Steps H vs ss → Steps H ws us → Steps H (vs ++ ws) (ss ++ us)
  | _, _, _, _, .nil, b => b
  | _, _, _, _, .cons r t, b => .cons r (Steps.append t b)
theorem Steps.mono {H H' : Hp} {vs : List V} {ss : List Stp} (h : Steps H vs ss) (k : ∀ t xs, H t = some (.tup xs) → H' t = some (.tup xs)) : Steps H' vs ss :=
  Paired.mapP h fun _ _ ⟨t, e, q⟩ => ⟨t, e, k t _ q⟩
theorem Steps.same {H H' : Hp} {vs : List V} {ss : List Stp} (h : Steps H vs ss) (k : Same H H') : Steps H' vs ss := h.mono fun t xs e => k t _ e
theorem Steps.get2 {H : Hp} {vs : List V} {ss : List Stp} (h : Steps H vs ss) {i : Nat} {s : Stp} (e : ss[i]? = some s) : ∃ v, vs[i]? = some v ∧ StepAt H v s := by
  have hi : i < vs.length := by rw [h.length]; exact (List.getElem?_eq_some_iff.mp e).1
  obtain ⟨s', h1, h2⟩ := h.get (List.getElem?_eq_getElem hi)
  rw [e] at h1
  cases h1
  exact ⟨_, List.getElem?_eq_getElem hi, h2⟩
/-- a tuple that is locked and has no dict of its own -/
def TupP (H : Hp) (tp : Addr) (ws : List V) : Prop := ∃ o : Obj, o.dict = none ∧ H tp = some (.frz o (.tup ws))
theorem TupP.same {H H' : Hp} {tp : Addr} {ws : List V} (h : TupP H tp ws) (k : Same H H') : TupP H' tp ws :=
  let ⟨o, d, e⟩ := h
  ⟨o, d, k _ _ e⟩
theorem TupP.sq {K : PySem.W.Frag} {H : Hp} {tp : Addr} {ws : List V} (h : TupP H tp ws) : SqT K H tp ws :=
  let ⟨o, _, e⟩ := h
  .inl (.inr ⟨o, e⟩)
theorem TupP.ne {H : Hp} {tp l : Addr} {ws : List V} (h : TupP H tp ws) (hl : H l = none) : tp ≠ l := fun z => by
  obtain ⟨o, _, e⟩ := h
  rw [z, hl] at e
  cases e
/-- a plan -/
def PlanAt (C : Addr) (H : Hp) (p : Addr) (ss : List Stp) : Prop := ∃ dx tp ws, H p = some (.ins C dx [("step_tuple", .ref tp)]) ∧ TupP H tp ws ∧ Steps H ws ss
theorem PlanAt.same {C : Addr} {H H' : Hp} {p : Addr} {ss : List Stp} (h : PlanAt C H p ss) (k : Same H H') : PlanAt C H' p ss :=
  let ⟨dx, tp, ws, a, b, d⟩ := h
  ⟨dx, tp, ws, k _ _ a, b.same k, d.same k⟩
/-- all but what stands at s is as it was -/
def But (s : Addr) (H H' : Hp) : Prop := ∀ b o, b ≠ s → H b = some o → H' b = some o
theorem But.refl (s : Addr) (H : Hp) : But s H H := fun _ _ _ e => e
theorem But.trans {s : Addr} {H H1 H2 : Hp} (a : But s H H1) (b : But s H1 H2) : But s H H2 := fun c o n e => b c o n (a c o n e)
theorem But.of {s : Addr} {H H' : Hp} (a : Same H H') : But s H H' := fun c o _ e => a c o e
/-- a list that nobody writes: locked, or of the written part -/
def SqF (K : PySem.W.Frag) (H : Hp) (a : Addr) (xs : List V) : Prop := (∃ o, H a = some (.frz o (.lst xs))) ∨ SqL K (fun _ => none) a xs
theorem SqF.sq {K : PySem.W.Frag} {H : Hp} {a : Addr} {xs : List V} (h : SqF K H a xs) : SqL K H a xs := by
  rcases h with h | ((h | ⟨o, h⟩) | h)
  · exact .inl (.inr h)
  · cases h
  · cases h
  · exact .inr h
theorem SqF.keep {K : PySem.W.Frag} {H H' : Hp} {a : Addr} {xs : List V} (h : SqF K H a xs) (k : ∀ b o u, H b = some (.frz o u) → H' b = some (.frz o u)) : SqF K H' a xs := by
  rcases h with ⟨o, h⟩ | h
  · exact .inl ⟨o, k _ _ _ h⟩
  · exact .inr h
theorem sqF_of {K : PySem.W.Frag} {H : Hp} {a : Addr} {xs : List V} (h : SqL K H a xs) (o : Only H) : SqF K H a xs := by
  rcases h with (h | h) | h
  · rcases o a with q | ⟨ob, ys, q⟩
    · rw [q] at h
      cases h
    · rw [q] at h
      cases h
  · exact .inl h
  · exact .inr (.inr h)
/-- the drawing's state: a list of the script, a place, two numbers -/
def DrawAt (K : PySem.W.Frag) (H : Hp) (s : Addr) : Prop := ∃ (a : Addr) (ns : List Int) (p x y : Int), H s = some (.lst [.ref a, .int p, .int x, .int y]) ∧ SqF K H a (ns.map V.int) ∧ ns.length ≤ 63 ∧ 0 ≤ p
theorem DrawAt.lst {K : PySem.W.Frag} {H : Hp} {s : Addr} (h : DrawAt K H s) : ∃ xs, H s = some (.lst xs) := let ⟨_, _, _, _, _, e, _⟩ := h; ⟨_, e⟩
theorem DrawAt.same {K : PySem.W.Frag} {H H' : Hp} {s : Addr} (h : DrawAt K H s) (k : Same H H') : DrawAt K H' s :=
  let ⟨a, ns, p, x, y, e, q, l, z⟩ := h
  ⟨a, ns, p, x, y, k _ _ e, q.keep fun b o u e => k b _ e, l, z⟩
/-- .. a list changed elsewhere -/
theorem DrawAt.but {K : PySem.W.Frag} {H H' : Hp} {s l : Addr} (h : DrawAt K H s) (k : But l H H') (hl : ∃ xs, H l = some (.lst xs)) (n : s ≠ l) : DrawAt K H' s :=
  let ⟨a, ns, p, x, y, e, q, z⟩ := h
  ⟨a, ns, p, x, y, k _ _ n e, q.keep fun b o u e => k b _ (let ⟨_, e2⟩ := hl; ne_of e e2 (fun q => nomatch q)) e, z⟩
theorem Steps.but {H H' : Hp} {s : Addr} {vs : List V} {ss : List Stp} (h : Steps H vs ss) (k : But s H H') (hs : ∃ xs, H s = some (.lst xs)) : Steps H' vs ss :=
  h.mono fun t xs e => k t _ (let ⟨_, e2⟩ := hs; ne_of e e2 (fun q => nomatch q)) e
theorem PlanAt.but {C : Addr} {H H' : Hp} {p s : Addr} {ss : List Stp} (h : PlanAt C H p ss) (k : But s H H') (hs : ∃ xs, H s = some (.lst xs)) : PlanAt C H' p ss := by
  obtain ⟨dx, tp, ws, a, b, d⟩ := h
  obtain ⟨ys, e2⟩ := id hs
  obtain ⟨o, d0, b'⟩ := b
  exact ⟨dx, tp, ws, k _ _ (ne_of a e2 (fun q => nomatch q)) a, ⟨o, d0, k _ _ (ne_of b' e2 (fun q => nomatch q)) b'⟩, d.but k hs⟩
theorem TupP.but {s : Addr} {H H' : Hp} {tp : Addr} {ws : List V} (h : TupP H tp ws) (k : But s H H') (n : tp ≠ s) : TupP H' tp ws :=
  let ⟨o, d, e⟩ := h
  ⟨o, d, k _ _ n e⟩
theorem same_upd {H : Hp} {p : Addr} {o : HO} (h : H p = none) : Same H (upd H p o) := fun b u e => by
  rw [upd_ne (ne_of_none e h)]
  exact e
theorem but_upd {H : Hp} {p : Addr} {o : HO} : But p H (upd H p o) := fun b u n e => by
  rw [upd_ne n]
  exact e
theorem lk_self {f : Str} {v : V} : List.lookup f [(f, v)] = some v := by simp [List.lookup]
theorem lk_no {f g : Str} {v : V} (h : ¬ (f == g) = true) : List.lookup f [(g, v)] = none := by
  have e : (f == g) = false := by simpa using h
  simp [List.lookup, e]
theorem room_eq (b : Bool) : decide (V.str (roomS b) = V.str "red") = b := by
  cases b <;> decide +kernel
theorem eqv_turn : PyData.eqv (.tuple [.str "turn"]) (.tuple [.str "turn"]) = true := by decide +kernel
theorem eqv_meet (b : Bool) (n : Int) : PyData.eqv (.tuple [.str (roomS b), .int n]) (.tuple [.str "turn"]) = false := by
  cases b <;> simp [PyData.eqv, PyData.eqvAll, roomS]
theorem shaped_meet (b : Bool) (n : Int) : SeqAt.shaped (.tuple [.str (roomS b), .int n]) = true := by
  have h1 : PyData.strOk (roomS b) = true := by cases b <;> decide +kernel
  simp [SeqAt.shaped, PyData.canLay0, PyData.canLayAll0, PyData.depth, PyData.depthAll, h1]
end Cc

namespace Cc
open PySem PySem.Spec PyProof.Rows L2
/-! ### the text by places -/
def top (i : Nat) : Stmt := PySem.Challenge.pw_chaircarry_k01_invalid_plans_and_houses.main.body.getD i (.Pass ⟨0, 0, 0, 0⟩)
abbrev sIsNum : Stmt := top 7
abbrev sIsWhole : Stmt := top 6
abbrev sChkNum : Stmt := top 8
abbrev sChkHouse : Stmt := top 9
abbrev sIsStep : Stmt := top 13
abbrev sInit : Stmt := inClass (top 14) 2
abbrev sSteps : Stmt := inClass (top 14) 4
abbrev sJoined : Stmt := inClass (top 14) 6
/-! ### promises -/
def spIsWhole : Sp := fun vs H Q _ => ∃ v : Int, vs = [.int v] ∧ Q (.bl true) H
def spIsNum : Sp := fun vs H Q _ => ∃ (v a b : Int), vs = [.int v, .int a, .int b] ∧ Q (.bl (decide (a ≤ v ∧ v ≤ b))) H
def spChkNum : Sp := fun vs H Q _ => ∃ (v a b : Int), vs = [.int v, .int a, .int b] ∧ a ≤ v ∧ v ≤ b ∧ Q .non H
def spChkHouse (C : Addr) : Sp := fun vs H Q _ => ∃ (p : Addr) (c : Int) (ss : List Stp), vs = [.ref p, .int c] ∧ PlanAt C H p ss ∧ 0 ≤ c ∧ c ≤ 1000000000000000000 ∧ (∀ s ∈ ss, s.ok c) ∧ ss.length ≤ 60 ∧ ∀ H', Same H H' → Q .non H'
def spIsStep : Sp := fun vs H Q _ => ∃ (v : V) (s : Stp), vs = [v] ∧ StepAt H v s ∧ s.ok 1000000000000000000 ∧ ∀ H', Same H H' → Q (.bl true) H'
def spInitS (C : Addr) : Sp := fun vs H Q _ => ∃ (x tp dx : Addr) (ws : List V) (ss : List Stp), vs = [.ref x, .ref tp] ∧ H x = some (.ins C dx []) ∧ TupP H tp ws ∧ Steps H ws ss ∧ ss.length ≤ 60 ∧ (∀ s ∈ ss, s.ok 1000000000000000000) ∧
  ∀ H', But x H H' → H' x = some (.ins C dx [("step_tuple", .ref tp)]) → Q .non H'
/-- Plan.__init__ by positional values -/
def spInit (C : Addr) : Sp := fun vs H Q _ => ∃ (x dx : Addr) (ws : List V) (ss : List Stp), vs = .ref x :: ws ∧ H x = some (.ins C dx []) ∧ Steps H ws ss ∧ ss.length ≤ 60 ∧ (∀ s ∈ ss, s.ok 1000000000000000000) ∧
  ∀ H' tp, But x H H' → H' x = some (.ins C dx [("step_tuple", .ref tp)]) → TupP H' tp ws → Q .non H'
def spJoinedS (C : Addr) : Sp := fun vs H Q _ => ∃ (x tp : Addr) (ss : List Stp) (o : Addr) (us : List Stp), vs = [.ref x, .ref tp] ∧ PlanAt C H x ss ∧ H tp = some (.tup [.ref o]) ∧ PlanAt C H o us ∧ (ss ++ us).length ≤ 60 ∧ (∀ s ∈ ss ++ us, s.ok 1000000000000000000) ∧
  ∀ p H', Same H H' → PlanAt C H' p (ss ++ us) → Q (.ref p) H'
def spJoined (C : Addr) : Sp := fun vs H Q _ => ∃ (x : Addr) (ss : List Stp) (o : Addr) (us : List Stp), vs = [.ref x, .ref o] ∧ PlanAt C H x ss ∧ PlanAt C H o us ∧ (ss ++ us).length ≤ 60 ∧ (∀ s ∈ ss ++ us, s.ok 1000000000000000000) ∧
  ∀ p H', Same H H' → PlanAt C H' p (ss ++ us) → Q (.ref p) H'
/-- a def that calls none of the program's: it wants no room of its own -/
theorem fn_low {P : Program} {w : World} {K : PySem.W.Frag} {mg : Str → Option Value} {base : Heap} {x qual : Str} {st : Stmt} {f : Addr} {fd : FuncData} {N ps : List Str} {sp : Sp} (F : Fun K x qual st f fd) (S : FnScope N ps (defScope st)) (len : ∀ vs H Q E, sp vs H Q E → vs.length = ps.length)
    (hb : ∀ (cdv : Value) (A : Around) (outer : List Env) (s : Shared) (H : Hp) (vs : List V) (Q : VK) (E : XK), sp vs H Q E → ∃ t, PSs (cxOf CX0 P w K mg base N qual (defScope st) f cdv A outer s H E).nox (defBody st) t ∧ t { nx := fun _ H' => Q .non H', rt := Q } (start N vs) H) : FnOk P w K mg base CX0 0 f fd ps sp := by
  obtain ⟨oc, od, kV, dc, pm, an, cdv, ct, osl, rfl, lk, hcd⟩ := F.ex
  refine ⟨len, fun A outer s H args us vs Q E hr e0 hbd r hsp => ?_⟩
  have hl := len _ _ _ _ hsp
  have KX : K.In s.heap := e0.mod.kin.keeps (fun b o e => (e0.bs b o e).1)
  have lim := e0.mod.nolimit.keeps (fun b o e => (e0.bs b o e).1)
  have hk : ∀ y ∈ ps.zip us, (defScope st).names.lookup y.1 = some .local ∨ ((defScope st).names.lookup y.1 = some .cell ∧ ((cellsFrom (s.heap.objs.size + 1) (defScope st).names []).lookup y.1).isSome = true) := by
    rintro ⟨n, v⟩ hy
    exact (S.par n (List.of_mem_zip hy).1).imp id fun q => ⟨q, PySem.W.cellsFrom_some _ _ _ (.inl q)⟩
  refine codeAny_call_function hr.depth (KX _ _ lk) rfl S.co S.gen rfl (PySem.W.codeRec_of KX hcd) (hbd _ _ _ _ (wpAny_newFunctionEnv_cells S.kind hk fun env he s1 x => ?_))
  subst he
  obtain ⟨t, ht, hq⟩ := hb cdv A outer s H vs Q E hsp
  refine ⟨lim.keeps (x.toInCall.keep), codeAny_func ?_⟩
  have I : Inv (cxOf CX0 P w K mg base N qual (defScope st) f cdv A outer s H E) [] (start N vs) H s1 := inv_start S hr.hd e0 hl r x
  refine wpAny_mono (ht.nox.run [] s1 (start N vs) H _ I hq) (fun fl s' hs => ?_) fun e s' hs => hs
  match fl, hs with
  | .ret u, ⟨v, σ', H', J, rv, q⟩ => exact ⟨v, H', J.os, J.bare, J.base, J.hok, rv, q⟩
  | .next, ⟨σ', H', J, q⟩ => exact ⟨.non, H', J.os, J.bare, J.base, J.hok, rfl, q⟩
  | .brk, ⟨_, _, _, q⟩ => exact q.elim
  | .cont, ⟨_, _, _, q⟩ => exact q.elim
/-! ### what the top has written -/
structure Bt (mg : Str → Option Value) : Prop where
  isinstance : mg "isinstance" = none
  int : mg "int" = none
  bool : mg "bool" = none
  tuple : mg "tuple" = none
  list : mg "list" = none
  len : mg "len" = none
  max : mg "max" = none
  min : mg "min" = none
  abs : mg "abs" = none
  enumerate : mg "enumerate" = none
  range : mg "range" = none
  sum : mg "sum" = none
  sorted : mg "sorted" = none
  divmod : mg "divmod" = none
  zip : mg "zip" = none
  str : mg "str" = none
  dict : mg "dict" = none
  verr : mg "ValueError" = none
  any : mg "any" = none
structure Txt (K : PySem.W.Frag) (mg : Str → Option Value) (C TU pS gS : Addr) (mc : Value) : Prop where
  b : Bt mg
  cl : Cls K C
  nS : NoAttr K C "step_tuple"
  gP : mg "Plan" = some (.ref C)
  rd : ClX.CRead K C mc
  cs : ∃ u, ClX.CVal K C mc "MAX_STEPS" (.int 60) u
  cc : ∃ u, ClX.CVal K C mc "MAX_CHAIRS" (.int 1000000000000000000) u
  con : ∃ u, Con K C "MAX_CHAIRS" (.int 1000000000000000000) u
  gT : mg "TURN" = some (.ref TU)
  tT : ∀ H, SqT K H TU [.str "turn"]
  pr : PropOf K C "steps" pS gS
section
variable {P : Program} {w : World} {K : PySem.W.Frag} {mg : Str → Option Value} {base : Heap} {C TU pS gS : Addr} {mc : Value}
/-! ### checks -/
theorem scIsWhole : FnScope ["value"] ["value"] (defScope sIsWhole) := ⟨rfl, rfl, rfl, by decide +kernel, rfl, by decide +kernel, by decide +kernel⟩
theorem ok_iswhole {f : Addr} {fd : FuncData} (F : Fun K "is_whole" "is_whole" sIsWhole f fd) (B : Bt mg) : FnOk P w K mg base CX0 0 f fd ["value"] spIsWhole := by
  refine fn_low F scIsWhole (fun vs H Q E h => ?_) (fun cdv A outer s H vs Q E h => ?_)
  · obtain ⟨v, rfl, _⟩ := h
    rfl
  · obtain ⟨v, rfl, k⟩ := h
    refine ⟨_, pss_one (ps_ret (pe_and (pe_callB call_isi (by rfl) B.isinstance (by decide +kernel) (pa_cons (pv 0) (pa_cons (pe_bltn (v := .ty "int") (by rfl) B.int (by decide +kernel) rfl) pa_nil)))
      (pe_one (pe_not (pe_callB call_isi (by rfl) B.isinstance (by decide +kernel) (pa_cons (pv 0) (pa_cons (pe_bltn (v := .ty "bool") (by rfl) B.bool (by decide +kernel) rfl) pa_nil))))))), ?_⟩
    refine ⟨_, rfl, _, _, _, _, true, rfl, .ty "int", .base (.int v), kit_ty (by decide +kernel), true, rfl, ?_⟩
    exact iteT ⟨_, rfl, _, _, _, _, false, rfl, .ty "bool", .base (.int v), kit_ty (by decide +kernel), false, rfl, k⟩
theorem scIsNum : FnScope ["value", "least", "most"] ["value", "least", "most"] (defScope sIsNum) := ⟨rfl, rfl, rfl, by decide +kernel, rfl, by decide +kernel, by decide +kernel⟩
theorem ok_isnum {f fW : Addr} {fd : FuncData} (F : Fun K "is_number" "is_number" sIsNum f fd) (W : Dn P w K mg base 0 "is_whole" fW spIsWhole) : FnOk P w K mg base CX0 1 f fd ["value", "least", "most"] spIsNum := by
  refine F.ok scIsNum (fun vs H Q E h => ?_) (fun cdv A outer s H vs Q E hr h => ?_)
  · obtain ⟨v, a, b, rfl, _⟩ := h
    rfl
  · obtain ⟨v, a, b, rfl, k⟩ := h
    refine ⟨_, pss_one (ps_ret (pe_and (pe_callR W.ok hr rfl W.at_ W.kp pass0 (pa_cons (pv 0) pa_nil))
      (pe_one (pe_chain op_le op_le (pv 1) (pv 0) (pv 2))))), ?_⟩
    refine ⟨_, rfl, v, rfl, true, rfl, ?_⟩
    refine iteT ⟨_, rfl, _, rfl, _, _, rfl, rfl, _, rfl, ?_⟩
    by_cases c : a ≤ v
    · rw [decide_eq_true c]
      refine iteT ⟨_, rfl, _, _, rfl, rfl, ?_⟩
      have e : decide (v ≤ b) = decide (a ≤ v ∧ v ≤ b) := by simp [c]
      show Q (V.bl (decide (v ≤ b))) H
      rw [e]
      exact k
    · rw [if_neg (by simp [c])]
      have e : (false : Bool) = decide (a ≤ v ∧ v ≤ b) := by simp [c]
      show Q (V.bl false) H
      rw [e]
      exact k
theorem scChkNum : FnScope ["value", "least", "most"] ["value", "least", "most"] (defScope sChkNum) := ⟨rfl, rfl, rfl, by decide +kernel, rfl, by decide +kernel, by decide +kernel⟩
theorem ok_chknum {f fN : Addr} {fd : FuncData} (F : Fun K "check_number" "check_number" sChkNum f fd) (N : Dn P w K mg base 1 "is_number" fN spIsNum) : FnOk P w K mg base CX0 2 f fd ["value", "least", "most"] spChkNum := by
  refine F.ok scChkNum (fun vs H Q E h => ?_) (fun cdv A outer s H vs Q E hr h => ?_)
  · obtain ⟨v, a, b, rfl, _⟩ := h
    rfl
  · obtain ⟨v, a, b, rfl, h1, h2, k⟩ := h
    refine ⟨_, pss_one (ps_if (pt_not (pt_val (pe_callR N.ok hr rfl N.at_ N.kp pass0 (pa_cons (pv 0) (pa_cons (pv 1) (pa_cons (pv 2) pa_nil)))))) (pss_one ps_never) pss_nil), ?_⟩
    refine ⟨_, rfl, _, rfl, _, rfl, v, a, b, rfl, _, rfl, ?_⟩
    rw [decide_eq_true (show a ≤ v ∧ v ≤ b from ⟨h1, h2⟩)]
    exact iteF k
/-! ### the plan's own -/
theorem scSteps : FnScope ["self"] ["self"] (defScope sSteps) := ⟨rfl, rfl, rfl, by decide +kernel, rfl, by decide +kernel, by decide +kernel⟩
theorem ok_steps {f : Addr} {fd : FuncData} (F : Fun K "steps" "Plan.steps" sSteps f fd) (T : Txt K mg C TU pS gS mc) : FnOk P w K mg base CX0 1 f fd ["self"] (getSp C "step_tuple") := by
  refine F.ok scSteps (fun vs H Q E h => ?_) (fun cdv A outer s H vs Q E hr h => ?_)
  · obtain ⟨a, dx, fs, v, rfl, _⟩ := h
    rfl
  · obtain ⟨a, dx, fs, v, rfl, h1, h2, k⟩ := h
    exact ⟨_, pss_one (ps_ret (pe_fld (pv 0) rfl)), _, rfl, a, C, dx, fs, v, rfl, h1, T.cl, T.nS, h2, k⟩
/-- e.steps, e a plan -/
structure Gs (P : Program) (w : World) (K : PySem.W.Frag) (mg : Str → Option Value) (base : Heap) (C gS : Addr) (fd : FuncData) : Prop where
  ok : FnOk P w K mg base CX0 1 gS fd ["self"] (getSp C "step_tuple")
  b : Binds K fd ["self"] []
theorem scChkHouse : FnScope ["plan", "chairs", "index", "step"] ["plan", "chairs"] (defScope sChkHouse) := ⟨rfl, rfl, rfl, by decide +kernel, rfl, by decide +kernel, by decide +kernel⟩
theorem ok_chkhouse {f fN : Addr} {fd fdS : FuncData} (F : Fun K "check_house" "check_house" sChkHouse f fd) (T : Txt K mg C TU pS gS mc) (G : Gs P w K mg base C gS fdS) (N : Dn P w K mg base 2 "check_number" fN spChkNum) :
    FnOk P w K mg base CX0 3 f fd ["plan", "chairs"] (spChkHouse C) := by
  refine F.ok scChkHouse (fun vs H Q E h => ?_) (fun cdv A outer s H vs Q E hr h => ?_)
  · obtain ⟨p, c, ss, rfl, _⟩ := h
    rfl
  · obtain ⟨p, c, ss, rfl, hp, h0, h1, hs, hl, k⟩ := h
    obtain ⟨dx, tp, ws, e1, e2, e3⟩ := id hp
    obtain ⟨u, hu⟩ := T.con
    refine ⟨_, pss_cons (ps_expr (pe_callR N.ok hr rfl N.at_ N.kp pass0 (pa_cons (pv 1) (pa_cons pe_int (pa_cons (pe_con (pv 0) rfl) pa_nil)))))
      (pss_one (ps_for PassesOwn.never rfl (pi_enumT (by rfl) T.b.enumerate (pa_cons (pe_prop (pv 0) T.cl T.pr G.ok hr G.b .nil pass0 rfl) pa_nil))
        (pg_tup rfl (pgs_cons (pg_name (i := 2) scChkHouse.nd rfl (.inl rfl)) (pgs_cons (pg_name (i := 3) scChkHouse.nd rfl (.inl rfl)) pgs_nil)))
        (pss_one (ps_if (PW.pt (pw_and (pt_cmpR op_eq (pe_callB call_len (by rfl) T.b.len PySem.boot_len (pa_cons (pv 3) pa_nil)) pe_int (nomark _))
          (pw_and1 (pt_cmpR op_gt (pe_ix ix_tup (pv 3) pe_int (fun _ _ => rfl)) (pv 1) (nomark _))))) (pss_one ps_never) pss_nil)))), ?_⟩
    refine ⟨_, rfl, _, rfl, p, C, dx, _, _, u, rfl, e1, T.cl, hu, lk_no (by decide +kernel), c, 0, _, rfl, h0, h1, ?_⟩
    refine ⟨_, rfl, p, dx, _, rfl, e1, p, dx, _, _, rfl, e1, lk_self, tp, ws, rfl, e2.sq, ?_⟩
    refine for_it (walk_enumT (xs := ws)) (fun i σ H' => ∃ a b, σ = [some (.ref p), some (.int c), a, b] ∧ Same H H') ⟨none, none, rfl, Same.refl H⟩ (fun i σ H' _ ⟨_, _, _, s1⟩ => (e2.same s1).sq) ?_ ?_
    · rintro i x σ H1 H2 hi ⟨a, b, rfl, s1⟩ ⟨q, y1, y2, rfl, n1, rfl, z1, z2⟩
      obtain ⟨st, hst, t, rfl, ht⟩ := e3.get z2
      have okst := hs st (List.mem_of_getElem? hst)
      have s2 : Same H (upd H1 q (.tup [y1, .ref t])) := s1.trans (same_upd n1)
      have ht2 := s2 _ _ ht
      refine ⟨q, _, rfl, SqT.of upd_same, rfl, _, _, rfl, _, _, rfl, rfl, ?_⟩
      refine ⟨_, rfl, _, _, rfl, .inr ⟨_, SqT.of ht2, rfl⟩, rfl, ?_⟩
      cases st with
      | turn =>
        refine ⟨_, rfl, ?_⟩
        refine iteF ?_
        exact iteF ⟨_, _, rfl, s2⟩
      | meet bb n =>
        refine ⟨_, rfl, iteT ⟨_, rfl, t, _, _, _, rfl, rfl, SqT.of ht2, at_of (j := 1) rfl rfl, _, rfl, _, _, rfl, rfl, _, rfl, ?_⟩⟩
        rw [decide_eq_false (show ¬ c < n from Int.not_lt.mpr okst.2)]
        exact iteF ⟨_, _, rfl, s2⟩
    · rintro σ H' ⟨a, b, rfl, s1⟩
      exact k H' s1
/-! ### is_step, Plan( *steps), joined -/
theorem scIsStep : FnScope ["step"] ["step"] (defScope sIsStep) := ⟨rfl, rfl, rfl, by decide +kernel, rfl, by decide +kernel, by decide +kernel⟩
theorem ok_isstep {f fN : Addr} {fd : FuncData} (F : Fun K "is_step" "is_step" sIsStep f fd) (T : Txt K mg C TU pS gS mc) (N : Dn P w K mg base 1 "is_number" fN spIsNum) : FnOk P w K mg base CX0 2 f fd ["step"] spIsStep := by
  refine F.ok scIsStep (fun vs H Q E h => ?_) (fun cdv A outer s H vs Q E hr h => ?_)
  · obtain ⟨v, s, rfl, _⟩ := h
    rfl
  · obtain ⟨v, st, rfl, ⟨t, rfl, ht⟩, ok, k⟩ := h
    obtain ⟨u, hu⟩ := T.cc
    refine ⟨_, pss_cons (ps_if (pt_not (pt_val (pe_callB call_isi (by rfl) T.b.isinstance (by decide +kernel) (pa_cons (pv 0) (pa_cons (pe_bltn (v := .ty "tuple") (by rfl) T.b.tuple (by decide +kernel) rfl) pa_nil))))) (pss_one (ps_ret pe_bl)) pss_nil)
      (pss_cons (ps_if (pt_cmpR op_eq (pe_callB call_len (by rfl) T.b.len PySem.boot_len (pa_cons (pv 0) pa_nil)) pe_int (nomark _))
        (pss_one (ps_ret (pe_and (pe_cmpR op_in_seq (pe_ix ix_tup (pv 0) pe_int (fun _ _ => rfl)) (pe_tup (pa_cons pe_str (pa_cons pe_str pa_nil))) (by rfl))
          (pe_one (pe_callR N.ok hr rfl N.at_ N.kp pass0 (pa_cons (pe_ix ix_tup (pv 0) pe_int (fun _ _ => rfl)) (pa_cons pe_int (pa_cons (ClX.pe_cval (pe_glob (v := .ref C) rfl T.gP rfl)) pa_nil)))))))) pss_nil)
      (pss_one (ps_ret (pe_cmpR (op_eqD hr.units) (pv 0) (pe_glob (v := .ref TU) rfl T.gT rfl) (nomark _))))), ?_⟩
    refine ⟨_, rfl, _, _, _, _, true, rfl, .ty "tuple", .base (.tup ht), kit_ty (by decide +kernel), true, rfl, ?_⟩
    refine iteF ?_
    refine ⟨_, rfl, _, _, rfl, .inr ⟨_, SqT.of ht, rfl⟩, rfl, ?_⟩
    cases st with
    | turn =>
      refine ⟨_, rfl, iteF ?_⟩
      refine ⟨_, rfl, .tuple [.str "turn"], .tuple [.str "turn"], .tup (SqT.of ht) (.cons (.str _) .nil), .tup (T.tT _) (.cons (.str _) .nil), by decide +kernel, by decide +kernel, ?_⟩
      have e : PyData.eqv (.tuple [.str "turn"]) (.tuple [.str "turn"]) = true := by decide +kernel
      rw [e]
      exact k H (Same.refl H)
    | meet bb n =>
      refine ⟨_, rfl, iteT ?_⟩
      refine ⟨_, rfl, t, _, _, _, rfl, rfl, SqT.of ht, at_of (j := 0) rfl rfl, by show 2 ≤ sizeLine; decide, fun p hp => ?_⟩
      have s1 : Same H (upd H p (.tup [.str "red", .str "blue"])) := same_upd hp
      refine ⟨p, _, rfl, .inr (SqT.of upd_same), rfl, by decide, _, rfl, ?_⟩
      have e : inV (.str (roomS bb)) [.str "red", .str "blue"] = true := by cases bb <;> decide +kernel
      rw [e]
      refine iteT ⟨_, rfl, t, _, _, _, rfl, rfl, SqT.of (s1 _ _ ht), at_of (j := 1) rfl rfl, C, mc, _, u, rfl, T.rd, hu, n, 0, _, rfl, ?_⟩
      rw [decide_eq_true (show (0 : Int) ≤ n ∧ n ≤ 1000000000000000000 from ok)]
      exact k _ s1
theorem scInit : FnScope ["self", "steps", "index", "step"] ["self", "steps"] (defScope sInit) := ⟨rfl, rfl, rfl, by decide +kernel, rfl, by decide +kernel, by decide +kernel⟩
theorem ok_init {f fS : Addr} {fd : FuncData} (F : Fun K "__init__" "Plan.__init__" sInit f fd) (T : Txt K mg C TU pS gS mc) (N : Dn P w K mg base 2 "is_step" fS spIsStep) : FnR P w K mg base CX0 3 f (spInit C) := by
  obtain ⟨z1, z2, z3, z4, z5, z6, cdv, z7, z8, rfl, lk, hcd⟩ := F.ex
  refine (fn_starZ (ps := ["self"]) (pv := "steps") (sp := spInitS C) (k := 2) lk hcd scInit StX.cxUp_none (StX.bind_star1 (B := fun us => bindArgs _ ⟨us, []⟩) (fun _ => rfl) (fun _ _ _ => rfl)) fun A outer s H vs Q E hr h => ?_).imp fun vs H Q E h => ?_
  · obtain ⟨x, tp, dx, ws, ss, rfl, e1, e2, e3, hl, hs, k⟩ := h
    obtain ⟨u, hu⟩ := T.cs
    suffices h : ∃ t, PSs (cxOf CX0 P w K mg base ["self", "steps", "index", "step"] "Plan.__init__" (defScope sInit) f cdv A outer s H E).nox (defBody sInit) t ∧ t { nx := fun _ H' => Q .non H', rt := Q } (start ["self", "steps", "index", "step"] [.ref x, .ref tp]) H by
      obtain ⟨t, h1, h2⟩ := h
      exact ⟨t, h1.nox, h2⟩
    refine ⟨_, pss_cons (ps_for PassesOwn.never rfl (pi_enumT (by rfl) T.b.enumerate (pa_cons (pv 1) pa_nil))
        (pg_tup rfl (pgs_cons (pg_name (i := 2) scInit.nd rfl (.inl rfl)) (pgs_cons (pg_name (i := 3) scInit.nd rfl (.inl rfl)) pgs_nil)))
        (pss_one (ps_if (PW.pt (pw_or (pt_cmpR op_eq (pv 2) (ClX.pe_cval (pe_glob (v := .ref C) rfl T.gP rfl)) (nomark _))
          (pw_or1 (pt_not (pt_val (pe_callR N.ok hr rfl N.at_ N.kp pass0 (pa_cons (pv 3) pa_nil))))))) (pss_one ps_never) pss_nil)))
      (pss_one (ps_fld (pv 0) (pv 1) rfl)), ?_⟩
    refine ⟨_, rfl, tp, ws, rfl, e2.sq, ?_⟩
    refine for_it (walk_enumT (xs := ws)) (fun i σ H' => ∃ a b, σ = [some (.ref x), some (.ref tp), a, b] ∧ Same H H') ⟨none, none, rfl, Same.refl H⟩ (fun i σ H' _ ⟨_, _, _, s1⟩ => (e2.same s1).sq) ?_ ?_
    · rintro i v σ H1 H2 hi ⟨a, b, rfl, s1⟩ ⟨q, y1, y2, rfl, n1, rfl, z1, z2⟩
      obtain ⟨st, hst, t, rfl, ht⟩ := e3.get z2
      have okst := hs st (List.mem_of_getElem? hst)
      have s2 : Same H (upd H1 q (.tup [y1, .ref t])) := s1.trans (same_upd n1)
      have ht2 := s2 _ _ ht
      cases z1
      refine ⟨q, _, rfl, SqT.of upd_same, rfl, _, _, rfl, _, _, rfl, rfl, ?_⟩
      have hi' : i < 60 := by rw [e3.length] at hi; omega
      refine ⟨_, rfl, C, mc, _, u, rfl, T.rd, hu, rfl, _, rfl, ?_⟩
      rw [decide_eq_false (show ¬ V.int (i : Int) = V.int 60 from fun z => by injection z with z; omega)]
      refine iteF ?_
      refine ⟨_, rfl, _, st, rfl, ⟨t, rfl, ht2⟩, okst, fun H3 s3 => ⟨_, rfl, ?_⟩⟩
      exact iteF ⟨_, _, rfl, s2.trans s3⟩
    · rintro σ H' ⟨a, b, rfl, s1⟩
      refine ⟨_, rfl, _, rfl, x, C, dx, _, rfl, s1 _ _ e1, T.cl, T.nS, (by show 0 < 1000; decide), ?_⟩
      exact k _ (fun b o n e => by rw [upd_ne n]; exact s1 _ _ e) upd_same
  · obtain ⟨x, dx, ws, ss, rfl, e1, e3, hl, hs, k⟩ := h
    refine ⟨[.ref x], ws, rfl, rfl, ?_, fun p ob hp hd => ?_⟩
    · rw [e3.length]
      exact Nat.le_trans hl (by decide)
    · have s1 : Same H (upd H p (.frz ob (.tup ws))) := same_upd hp
      refine ⟨x, p, dx, ws, ss, rfl, s1 _ _ e1, ⟨ob, hd, upd_same⟩, e3.same s1, hl, hs, fun H' b1 b2 => ?_⟩
      exact k H' p (fun b o n e => b1 b o n (s1 _ _ e)) b2 ⟨ob, hd, b1 _ _ (ne_of_none e1 hp).symm upd_same⟩
theorem scJoined : FnScope ["self", "others", "steps", "other"] ["self", "others"] (defScope sJoined) := ⟨rfl, rfl, rfl, by decide +kernel, rfl, by decide +kernel, by decide +kernel⟩
theorem ok_joined {f fI : Addr} {fd fdS : FuncData} (F : Fun K "joined" "Plan.joined" sJoined f fd) (T : Txt K mg C TU pS gS mc) (G : Gs P w K mg base C gS fdS) (M : Mk K C fI) (GI : FnR P w K mg base CX0 3 fI (spInit C)) : FnR P w K mg base CX0 5 f (spJoined C) := by
  obtain ⟨z1, z2, z3, z4, z5, z6, cdv, z7, z8, rfl, lk, hcd⟩ := F.ex
  refine (StX.fn_star (ps := ["self"]) (pv := "others") (sp := spJoinedS C) (k := 4) lk hcd scJoined StX.cxUp_none (StX.bind_star1 (B := fun us => bindArgs _ ⟨us, []⟩) (fun _ => rfl) (fun _ _ _ => rfl)) fun A outer s H vs Q E hr h => ?_).imp fun vs H Q E h => ?_
  · obtain ⟨x, tp, ss, o, us, rfl, p1, e2, p2, hl, hs, k⟩ := h
    obtain ⟨dx, t1, ws, e1, e3, e4⟩ := id p1
    obtain ⟨dy, t2, zs, f1, f3, f4⟩ := id p2
    suffices h : ∃ t, PSs (cxOf CX0 P w K mg base ["self", "others", "steps", "other"] "Plan.joined" (defScope sJoined) f cdv A outer s H E).nox (defBody sJoined) t ∧ t { nx := fun _ H' => Q .non H', rt := Q } (start ["self", "others", "steps", "other"] [.ref x, .ref tp]) H by
      obtain ⟨t, h1, h2⟩ := h
      exact ⟨t, h1.nox, h2⟩
    have hr1 : Room 2 _ := hr.mono (by decide)
    refine ⟨_, pss_cons (ps_set (i := 2) scJoined.nd rfl (.inl rfl) (pe_callTy call_list_of (by rfl) T.b.list (by decide +kernel) (pa_cons (pe_prop (pv 0) T.cl T.pr G.ok hr1 G.b .nil pass0 rfl) pa_nil)))
      (pss_cons (ps_for PassesOwn.never rfl (pi_tup (pv 1)) (pg_name (i := 3) scJoined.nd rfl (.inl rfl))
        (pss_one (ps_expr (pe_bm PySem.F.plainAttrs_list PySem.F.slot_list_extend PySem.F.type_list_extend mt_extendT (pv 2) (pa_cons (pe_prop (pv 3) T.cl T.pr G.ok hr1 G.b .nil pass0 rfl) pa_nil)))))
      (pss_one (ps_ret (pe_makeS M GI hr rfl T.gP pass0 (pv 2))))), ?_⟩
    refine ⟨_, rfl, x, dx, _, rfl, e1, x, dx, _, _, rfl, e1, lk_self, t1, ws, rfl, .inr e3.sq, fun l hl0 => ?_⟩
    have s1 : Same H (upd H l (.lst ws)) := same_upd hl0
    have hlen : ws.length + zs.length ≤ 60 := by
      rw [e4.length, f4.length]
      rw [List.length_append] at hl
      exact hl
    refine ⟨_, rfl, tp, rfl, ⟨_, SqT.of (s1 _ _ e2)⟩, for_tup (K := K) (a := tp) (xs := [V.ref o]) (fun i σ H' => ∃ v, σ = [some (.ref x), some (.ref tp), some (.ref l), v] ∧ But l H H' ∧ H' l = some (.lst (if i = 0 then ws else ws ++ zs)))
      ⟨none, rfl, But.of s1, upd_same⟩ (fun i σ H' _ ⟨_, _, b1, _⟩ => SqT.of (b1 _ _ (ne_of_none e2 hl0) e2)) ?_ ?_⟩
    · rintro i y σ H' hi ⟨v, rfl, b1, b2⟩
      match i, hi with
      | 0, hi =>
        cases hi
        have g1 := b1 _ _ (ne_of_none f1 hl0) f1
        have g3 := f3.but b1 (f3.ne hl0)
        rw [if_pos rfl] at b2
        refine ⟨_, rfl, .inl ⟨rfl, _, SqL.of b2⟩, _, rfl, o, dy, _, rfl, g1, o, dy, _, _, rfl, g1, lk_self, l, t2, ws, zs, rfl, rfl, b2, g3.sq, Nat.le_trans hlen (by decide), ?_⟩
        refine ⟨_, rfl, fun b o n e => ?_, ?_⟩
        · rw [upd_ne n]
          exact b1 b o n e
        · rw [if_neg (by decide)]
          exact upd_same
      | i + 1, hi => simp at hi
    · rintro σ H' ⟨v, rfl, b1, b2⟩
      rw [if_neg (by show ¬ (1 = 0); decide)] at b2
      refine ⟨_, rfl, l, _, rfl, .inr (SqL.of b2), fun q dq hq hdq hne => ?_⟩
      have s2 : Same H' (upd (upd H' dq (.own q)) q (.ins C dq [])) := fun b o e => by
        rw [upd_ne (ne_of_none e hq), upd_ne (ne_of_none e hdq)]
        exact e
      have stp : Steps H' (ws ++ zs) (ss ++ us) := by
        refine (e4.append f4).mono fun t xs e => b1 _ _ (ne_of_none e hl0) e
      refine ⟨q, dq, _, ss ++ us, rfl, upd_same, stp.same s2, hl, hs, fun H2 tq b3 b4 b5 => ⟨rfl, ?_⟩⟩
      have s3 : Same H H2 := fun b o e => b3 _ _ (ne_of_none (b1 _ _ (ne_of_none e hl0) e) hq) (s2 _ _ (b1 _ _ (ne_of_none e hl0) e))
      refine k q H2 s3 ⟨dq, tq, _, b4, b5, ?_⟩
      exact stp.mono fun t xs e => b3 _ _ (ne_of_none e hq) (s2 _ _ e)
  · obtain ⟨x, ss, o, us, rfl, p1, p2, hl, hs, k⟩ := h
    refine ⟨[.ref x], [.ref o], rfl, rfl, by show 1 ≤ sizeLine; decide, fun p hp => ?_⟩
    have s1 : Same H (upd H p (.tup [.ref o])) := same_upd hp
    exact ⟨x, p, ss, o, us, rfl, p1.same s1, upd_same, p2.same s1, hl, hs, fun p' H' s2 => k p' H' (s1.trans s2)⟩
end
end Cc

namespace Cc
open PySem PySem.Spec PyProof.Rows L2
abbrev sStart : Stmt := top 38
abbrev sDrawn : Stmt := top 39
abbrev sRnd : Stmt := top 42
abbrev sLPlan : Stmt := top 43
def spStart (K : PySem.W.Frag) : Sp := fun vs H Q _ => ∃ (a : Addr) (ns : List Int), vs = [.ref a] ∧ SqF K H a (ns.map V.int) ∧ ns.length ≤ 63 ∧ ∀ s H', H s = none → Same H H' → DrawAt K H' s → Q (.ref s) H'
def spDrawn (K : PySem.W.Frag) : Sp := fun vs H Q _ => ∃ (s : Addr) (n : Int), vs = [.ref s, .int n] ∧ DrawAt K H s ∧ 0 < n ∧ n ≤ 9223372036854775807 ∧ ∀ r H', 0 ≤ r → r < n → DrawAt K H' s → But s H H' → Q (.int r) H'
def spRnd (K : PySem.W.Frag) : Sp := fun vs H Q _ => ∃ (s : Addr) (m c : Int), vs = [.ref s, .int m, .int c] ∧ DrawAt K H s ∧ 0 ≤ m ∧ m ≤ 50 ∧ 0 ≤ c ∧ c ≤ 1000000000000000000 ∧
  ∀ l ws ss H', H l = none → H' l = some (.lst ws) → Steps H' ws ss → (ss.length : Int) ≤ m → (∀ s ∈ ss, s.ok c) → DrawAt K H' s → But s H H' → Q (.ref l) H'
def spLPlan (C : Addr) : Sp := fun vs H Q _ => ∃ (l : Addr) (ws : List V) (ss : List Stp), vs = [.ref l] ∧ H l = some (.lst ws) ∧ Steps H ws ss ∧ ss.length ≤ 60 ∧ (∀ s ∈ ss, s.ok 1000000000000000000) ∧ ∀ p H', Same H H' → PlanAt C H' p ss → Q (.ref p) H'
section
variable {P : Program} {w : World} {K : PySem.W.Frag} {mg : Str → Option Value} {base : Heap} {C TU pS gS : Addr} {mc : Value}
theorem scStart : FnScope ["_law_script", "_law_mixed", "_law_cell"] ["_law_script"] (defScope sStart) := ⟨rfl, rfl, rfl, by decide +kernel, rfl, by decide +kernel, by decide +kernel⟩
theorem ok_start {f : Addr} {fd : FuncData} (F : Fun K "_law_start" "_law_start" sStart f fd) : FnOk P w K mg base CX0 1 f fd ["_law_script"] (spStart K) := by
  refine F.ok scStart (fun vs H Q E h => ?_) (fun cdv A outer s H vs Q E hr h => ?_)
  · obtain ⟨a, ns, rfl, _⟩ := h
    rfl
  · obtain ⟨a, ns, rfl, hF, hl, k⟩ := h
    have hS := hF.sq
    refine ⟨_, pss_cons (ps_set (i := 1) scStart.nd rfl (.inl rfl) pe_int)
      (pss_cons (ps_for PassesOwn.never rfl (pi_list (pv 0)) (pg_name (i := 2) scStart.nd rfl (.inl rfl))
        (pss_one (ps_set (i := 1) scStart.nd rfl (.inl rfl) (pe_op op_mod (pe_op op_add (pe_op op_add (pe_op op_mul (pv 1) pe_int) (pv 2)) pe_int) pe_int))))
      (pss_one (ps_ret (pe_lst (pa_cons (pv 0) (pa_cons pe_int (pa_cons (pv 1) (pa_cons pe_int pa_nil)))))))), ?_⟩
    refine ⟨_, rfl, a, rfl, ⟨_, hS⟩, for_list (K := K) (a := a) (xs := ns.map V.int) (fun i σ H' => H' = H ∧ ∃ (m : Int) (v : Option V), σ = [some (.ref a), some (.int m), v]) ⟨rfl, 1, none, rfl⟩ (fun i σ H' _ ⟨e, _⟩ => e ▸ hS) ?_ ?_⟩
    · rintro i y σ H' hi ⟨rfl, m, v, rfl⟩
      obtain ⟨z, rfl⟩ : ∃ z, y = V.int z := by
        rw [List.getElem?_map] at hi
        cases e : ns[i]? with
        | none =>
          rw [e] at hi
          cases hi
        | some z =>
          rw [e] at hi
          exact ⟨z, (Option.some.inj hi).symm⟩
      refine ⟨_, rfl, _, _, rfl, rfl, .inr ⟨by decide, by decide⟩, _, rfl, _, _, rfl, rfl, _, _, rfl, rfl, _, _, rfl, rfl, (by show (0 : Int) < 2147483647; decide), rfl, _, _, rfl⟩
    · rintro σ H' ⟨rfl, m, v, rfl⟩
      refine ⟨_, rfl, _, rfl, by show 4 ≤ sizeLine; decide, fun s hs => ?_⟩
      refine k s _ hs (same_upd hs) ⟨a, ns, 0, m, 0, upd_same, hF.keep fun b o u e => same_upd hs b _ e, hl, Int.le_refl 0⟩
theorem scDrawn : FnScope ["_law_state", "_law_count", "_law_result", "_law_cell"] ["_law_state", "_law_count"] (defScope sDrawn) := ⟨rfl, rfl, rfl, by decide +kernel, rfl, by decide +kernel, by decide +kernel⟩
theorem ok_drawn {f : Addr} {fd : FuncData} (F : Fun K "_law_drawn" "_law_drawn" sDrawn f fd) (B : Bt mg) : FnOk P w K mg base CX0 1 f fd ["_law_state", "_law_count"] (spDrawn K) := by
  refine F.ok scDrawn (fun vs H Q E h => ?_) (fun cdv A outer s H vs Q E hr h => ?_)
  · obtain ⟨s, n, rfl, _⟩ := h
    rfl
  · obtain ⟨s, n, rfl, ⟨a, ns, p, x, y, e, hF, hl, hp⟩, hn, hn2, k⟩ := h
    have hq : ∀ H', But s H H' → SqF K H' a (ns.map V.int) := fun H' b => hF.keep fun c o u q => b c _ (ne_of q e (fun z => nomatch z)) q
    have hw : ∀ i, CDivW i n := fun i => wide_div (b := 63) hn (by omega) (by decide) (by decide)
    refine ⟨_, pss_cons (ps_if (pt_cmpR op_gt (pe_ix ix_list (pv 0) pe_int (fun _ _ => rfl)) pe_int (nomark _))
        (pss_cons (ps_set (i := 2) scDrawn.nd rfl (.inl rfl) (pe_op op_mod (pe_ix ix_list (pv 0) pe_int (fun _ _ => rfl)) (pv 1)))
        (pss_cons (ps_asg (pe_op op_fdivW (pe_ix ix_list (pv 0) pe_int (fun _ _ => rfl)) (pv 1)) (pg_sub (pv 0) pe_int set_list))
        (pss_one (ps_ret (pv 2))))) pss_nil)
      (pss_cons (ps_asg (pe_op op_add (pe_ix ix_list (pv 0) pe_int (fun _ _ => rfl)) pe_int) (pg_sub (pv 0) pe_int set_list))
      (pss_cons (ps_if (pt_cmpR op_le (pe_ix ix_list (pv 0) pe_int (fun _ _ => rfl)) (pe_callB call_len_seq (by rfl) B.len PySem.boot_len (pa_cons (pe_ix ix_list (pv 0) pe_int (fun _ _ => rfl)) pa_nil)) (nomark _))
        (pss_cons (ps_set (i := 3) scDrawn.nd rfl (.inl rfl) (pe_ix ix_list (pe_ix ix_list (pv 0) pe_int (fun _ _ => rfl)) (pe_op op_sub (pe_ix ix_list (pv 0) pe_int (fun _ _ => rfl)) pe_int) (fun _ _ => rfl)))
        (pss_cons (ps_asg (pe_ifExp (pt_cmpR op_ge (pv 3) (pe_op op_pow pe_int pe_int) (nomark _)) (pe_op op_fdivW (pv 3) (pv 1)) pe_int) (pg_sub (pv 0) pe_int set_list))
        (pss_one (ps_ret (pe_op op_mod (pv 3) (pv 1)))))) pss_nil)
      (pss_cons (ps_asg (pe_op op_mod (pe_op op_add (pe_op op_mul (pe_ix ix_list (pv 0) pe_int (fun _ _ => rfl)) pe_int) pe_int) pe_int) (pg_sub (pv 0) pe_int set_list))
      (pss_one (ps_ret (pe_op op_mod (pe_op op_fdiv (pe_ix ix_list (pv 0) pe_int (fun _ _ => rfl)) pe_int) (pv 1))))))), ?_⟩
    have fin : ∀ (r : Int) (p' x' y' : Int) (H' : Hp), 0 ≤ r → r < n → 0 ≤ p' → But s H H' → H' s = some (.lst [.ref a, .int p', .int x', .int y']) → Q (.int r) H' := fun r p' x' y' H' h0 h1 hp' b e' =>
      k r H' h0 h1 ⟨a, ns, p', x', y', e', hq H' b, hl, hp'⟩ b
    refine ⟨_, rfl, s, _, _, _, rfl, rfl, SqL.of e, at_of (j := 3) rfl rfl, _, _, rfl, rfl, _, rfl, ?_⟩
    refine ite2 (fun _ => ?_) (fun _ => ?_)
    · refine ⟨_, rfl, s, _, _, _, rfl, rfl, SqL.of e, at_of (j := 3) rfl rfl, _, rfl, _, _, rfl, rfl, hn, ?_⟩
      refine ⟨_, rfl, s, _, _, _, rfl, rfl, SqL.of e, at_of (j := 3) rfl rfl, _, rfl, _, _, rfl, rfl, hw _, ?_⟩
      refine ⟨_, rfl, s, _, _, 3, rfl, rfl, e, rfl, _, rfl, ?_⟩
      exact fin _ _ _ _ _ (Int.emod_nonneg _ (by omega)) (Int.emod_lt_of_pos _ hn) hp but_upd upd_same
    · refine ⟨_, rfl, s, _, _, _, rfl, rfl, SqL.of e, at_of (j := 1) rfl rfl, _, _, rfl, rfl, ?_⟩
      refine ⟨_, rfl, s, _, _, 1, rfl, rfl, e, rfl, ?_⟩
      have b1 : But s H (upd H s (.lst [.ref a, .int (p + 1), .int x, .int y])) := but_upd
      refine ⟨_, rfl, s, _, _, _, rfl, rfl, SqL.of upd_same, at_of (j := 1) rfl rfl, _, rfl, s, _, _, _, rfl, rfl, SqL.of upd_same, at_of (j := 0) rfl rfl, a, _, rfl, .inl (hq _ b1).sq, _, _, rfl, rfl, _, rfl, ?_⟩
      refine ite2 (fun c => ?_) (fun _ => ?_)
      · have c' : p + 1 ≤ (ns.length : Int) := by
          have := of_decide_eq_true c
          rw [List.length_map] at this
          exact this
        obtain ⟨j, ej⟩ : ∃ j : Nat, p + 1 - 1 = (j : Int) := ⟨p.toNat, by omega⟩
        have hj : j < ns.length := by omega
        refine ⟨_, rfl, s, _, _, _, rfl, rfl, SqL.of upd_same, at_of (j := 0) rfl rfl, _, rfl, s, _, _, _, rfl, rfl, SqL.of upd_same, at_of (j := 1) rfl rfl, _, _, rfl, rfl, a, _, _, _, rfl, rfl, (hq _ b1).sq, at_of (j := j) (v := V.int ns[j]) ej (by rw [List.getElem?_map, List.getElem?_eq_getElem hj]; rfl), ?_⟩
        refine ⟨_, rfl, _, _, rfl, rfl, ⟨by decide, by decide, by decide⟩, _, _, rfl, rfl, _, rfl, ?_⟩
        refine ite2 (fun _ => ?_) (fun _ => ?_)
        · refine ⟨_, rfl, _, rfl, _, _, rfl, rfl, hw _, ?_⟩
          refine ⟨_, rfl, s, _, _, 3, rfl, rfl, upd_same, rfl, _, rfl, _, rfl, _, _, rfl, rfl, hn, ?_⟩
          exact fin _ _ _ _ _ (Int.emod_nonneg _ (by omega)) (Int.emod_lt_of_pos _ hn) (by show 0 ≤ p + 1; omega) (b1.trans but_upd) upd_same
        · refine ⟨_, rfl, s, _, _, 3, rfl, rfl, upd_same, rfl, _, rfl, _, rfl, _, _, rfl, rfl, hn, ?_⟩
          exact fin _ _ _ _ _ (Int.emod_nonneg _ (by omega)) (Int.emod_lt_of_pos _ hn) (by show 0 ≤ p + 1; omega) (b1.trans but_upd) upd_same
      · refine ⟨_, rfl, s, _, _, _, rfl, rfl, SqL.of upd_same, at_of (j := 2) rfl rfl, _, _, rfl, rfl, .inr ⟨by decide, by decide⟩, _, _, rfl, rfl, _, _, rfl, rfl, (by show (0 : Int) < 2147483647; decide), ?_⟩
        refine ⟨_, rfl, s, _, _, 2, rfl, rfl, upd_same, rfl, ?_⟩
        refine ⟨_, rfl, s, _, _, _, rfl, rfl, SqL.of upd_same, at_of (j := 2) rfl rfl, _, _, rfl, rfl, ⟨by decide, by decide⟩, _, rfl, _, _, rfl, rfl, hn, ?_⟩
        exact fin _ _ _ _ _ (Int.emod_nonneg _ (by omega)) (Int.emod_lt_of_pos _ hn) (by show 0 ≤ p + 1; omega) (b1.trans but_upd) upd_same
theorem scRnd : FnScope ["_law_state", "_law_most", "_law_high", "_law_result", "_law_turns", "_law_k", "_law_need"] ["_law_state", "_law_most", "_law_high"] (defScope sRnd) := ⟨rfl, rfl, rfl, by decide +kernel, rfl, by decide +kernel, by decide +kernel⟩
theorem ok_rnd {f fD : Addr} {fd : FuncData} (F : Fun K "_law_random_steps" "_law_random_steps" sRnd f fd) (B : Bt mg) (D : Dn P w K mg base 1 "_law_drawn" fD (spDrawn K)) : FnOk P w K mg base CX0 2 f fd ["_law_state", "_law_most", "_law_high"] (spRnd K) := by
  refine F.ok scRnd (fun vs H Q E h => ?_) (fun cdv A outer s H vs Q E hr h => ?_)
  · obtain ⟨s, m, c, rfl, _⟩ := h
    rfl
  · obtain ⟨s, m, c, rfl, hD, hm0, hm1, hc0, hc1, k⟩ := h
    refine ⟨_, pss_cons (ps_par (i := 3) (j := 4) rfl scRnd.nd rfl rfl (by decide) rfl rfl (pa_cons (pe_lst pa_nil) (pa_cons (pe_callR D.ok hr rfl D.at_ D.kp pass0 (pa_cons (pv 0) (pa_cons pe_int pa_nil))) pa_nil)) (by rfl))
      (pss_cons (ps_for PassesOwn.never rfl (pi_range1 rfl B.range (pa_cons (pe_callR D.ok hr rfl D.at_ D.kp pass0 (pa_cons (pv 0) (pa_cons (pe_op op_add (pv 1) pe_int) pa_nil))) pa_nil)) (pg_name (i := 5) scRnd.nd rfl (.inl rfl))
        (pss_one (ps_if (PW.pt (pw_and (pt_cmpR op_eq (pv 4) pe_int (nomark _)) (pw_and1 (pt_cmpR op_eq (pe_callR D.ok hr rfl D.at_ D.kp pass0 (pa_cons (pv 0) (pa_cons pe_int pa_nil))) pe_int (nomark _)))))
          (pss_one (ps_expr (pe_bm PySem.F.plainAttrs_list PySem.F.slot_list_append PySem.F.type_list_append mt_append (pv 3) (pa_cons (pe_tup (pa_cons pe_str pa_nil)) pa_nil))))
          (pss_cons (ps_set (i := 6) scRnd.nd rfl (.inl rfl) (pe_ix ix_list (pe_lst (pa_cons (pe_callR D.ok hr rfl D.at_ D.kp pass0 (pa_cons (pv 0) (pa_cons (pe_op op_add (pv 2) pe_int) pa_nil)))
              (pa_cons (pe_op op_sub (pv 2) (pe_callR D.ok hr rfl D.at_ D.kp pass0 (pa_cons (pv 0) (pa_cons (pe_op op_add (pe_op op_fdiv (pv 2) pe_int) pe_int) pa_nil)))) pa_nil)))
              (pe_callR D.ok hr rfl D.at_ D.kp pass0 (pa_cons (pv 0) (pa_cons pe_int pa_nil))) (fun _ _ => rfl)))
          (pss_one (ps_expr (pe_bm PySem.F.plainAttrs_list PySem.F.slot_list_append PySem.F.type_list_append mt_append (pv 3) (pa_cons (pe_tup (pa_cons
              (pe_ix ix_list (pe_lst (pa_cons pe_str (pa_cons pe_str pa_nil))) (pe_callR D.ok hr rfl D.at_ D.kp pass0 (pa_cons (pv 0) (pa_cons pe_int pa_nil))) (fun _ _ => rfl)) (pa_cons (pv 6) pa_nil))) pa_nil))))))))
      (pss_one (ps_ret (pv 3)))), ?_⟩
    have ds : ∃ xs, H s = some (.lst xs) := hD.lst
    refine ⟨by show 0 ≤ sizeLine; decide, fun l hl0 => ?_⟩
    have nsl : s ≠ l := let ⟨_, e⟩ := ds; ne_of_none e hl0
    refine ⟨_, rfl, s, 3, rfl, hD.same (same_upd hl0), by decide, by decide, fun tu H1 tu0 tu1 D1 b1 => ⟨_, _, rfl, ?_⟩⟩
    have b01 : But s H H1 := (But.of (same_upd hl0)).trans b1
    have l1 : H1 l = some (.lst []) := b1 _ _ nsl.symm upd_same
    refine ⟨_, rfl, _, rfl, _, _, rfl, rfl, s, m + 1, rfl, D1, by omega, by omega, fun n H2 n0 n1 D2 b2 => ?_⟩
    have b02 : But s H H2 := b01.trans b2
    have l2 : H2 l = some (.lst []) := b2 _ _ nsl.symm l1
    have hnl : (n.toNat : Int) = n := by omega
    refine ⟨n, rfl, by omega, by omega, for_range (lo := 0) (n := n.toNat) (fun i σ H' => ∃ (x y : Option V) (ws : List V) (ss : List Stp), σ = [some (.ref s), some (.int m), some (.int c), some (.ref l), some (.int tu), x, y] ∧ H' l = some (.lst ws) ∧ Steps H' ws ss ∧ ss.length = i ∧ (∀ z ∈ ss, z.ok c) ∧ DrawAt K H' s ∧ But s H H')
      ⟨none, none, [], [], rfl, l2, .nil, rfl, by simp, D2, b02⟩ ?_ ?_⟩
    · rintro i σ H3 hi ⟨x, y, ws, ss, rfl, e3, s3, n3, o3, D3, b3⟩
      have hlen : ws.length < sizeLine := by
        rw [s3.length, n3]
        have : (sizeLine : Nat) = 16777216 := sizeLine_eq
        omega
      -- what a step appended leaves
      have fin : ∀ (H4 : Hp) (t : Addr) (st : Stp) (x' y' : Option V), But s H3 H4 → DrawAt K H4 s → H4 t = some (.tup (stpV st)) → st.ok c → But s H H4 →
          ∃ (x y : Option V) (vs : List V) (us : List Stp), [some (V.ref s), some (.int m), some (.int c), some (.ref l), some (.int tu), x', y'] = [some (.ref s), some (.int m), some (.int c), some (.ref l), some (.int tu), x, y] ∧ (upd H4 l (.lst (ws ++ [.ref t]))) l = some (.lst vs) ∧ Steps (upd H4 l (.lst (ws ++ [.ref t]))) vs us ∧ us.length = i + 1 ∧ (∀ z ∈ us, z.ok c) ∧ DrawAt K (upd H4 l (.lst (ws ++ [.ref t]))) s ∧ But s H (upd H4 l (.lst (ws ++ [.ref t]))) := by
        intro H4 t st x' y' b4 D4 ht ok4 b04
        have l4 : H4 l = some (.lst ws) := b4 _ _ nsl.symm e3
        have up : ∀ u xs, H4 u = some (.tup xs) → upd H4 l (.lst (ws ++ [.ref t])) u = some (.tup xs) := fun u xs e => by
          rw [upd_ne (ne_of e l4 (fun q => nomatch q))]
          exact e
        have b5 : But s H (upd H4 l (.lst (ws ++ [.ref t]))) := fun b o n e => by
          rw [upd_ne (ne_of_none e hl0)]
          exact b04 b o n e
        refine ⟨x', y', ws ++ [.ref t], ss ++ [st], rfl, upd_same, ?_, by rw [List.length_append, n3]; rfl, fun z hz => ?_, ?_, b5⟩
        · refine ((s3.but b4 D3.lst).mono up).append (.cons ⟨t, rfl, up _ _ ht⟩ .nil)
        · rcases List.mem_append.mp hz with q | q
          · exact o3 z q
          · rw [List.mem_singleton.mp q]
            exact ok4
        · exact D4.but but_upd ⟨_, l4⟩ nsl
      -- the first test: turns are drawn
      refine ⟨_, rfl, rfl, _, rfl, ?_⟩
      by_cases htu : V.int tu = V.int 0
      · rw [decide_eq_true htu]
        refine iteT ⟨_, rfl, s, 4, rfl, D3, by decide, by decide, fun r0 H4 _ _ D4 b4 => ⟨rfl, _, rfl, ?_⟩⟩
        have b04 : But s H H4 := b3.trans b4
        by_cases hr0 : V.int r0 = V.int 0
        · rw [decide_eq_true hr0]
          refine iteT ?_
          have l4 : H4 l = some (.lst ws) := b4 _ _ nsl.symm e3
          refine ⟨_, rfl, .inl ⟨rfl, _, SqL.of l4⟩, by show 1 ≤ sizeLine; decide, fun t ht => ?_⟩
          have b5 : But s H4 (upd H4 t (.tup [.str "turn"])) := But.of (same_upd ht)
          refine ⟨l, ws, _, rfl, rfl, (same_upd ht) _ _ l4, hlen, ?_⟩
          exact fin _ t .turn _ _ (b4.trans b5) (D4.same (same_upd ht)) upd_same trivial (b04.trans b5)
        · rw [decide_eq_false hr0]
          refine iteF ?_
          refine ⟨_, rfl, _, rfl, _, _, rfl, rfl, s, c + 1, rfl, D4, by omega, by omega, fun r1 H5 r10 r11 D5 b5 => ?_⟩
          refine ⟨_, rfl, _, rfl, _, rfl, _, _, rfl, rfl, ⟨by decide, by decide⟩, _, _, rfl, rfl, s, c / 3 + 1, rfl, D5, by omega, by omega, fun r2 H6 r20 r21 D6 b6 => ⟨_, _, rfl, rfl, by show 2 ≤ sizeLine; decide, fun l2 hl2 => ?_⟩⟩
          have u6 : Same H6 (upd H6 l2 (.lst [.int r1, .int (c - r2)])) := same_upd hl2
          have ns2 : l2 ≠ s := let ⟨_, e⟩ := D6.lst; (ne_of_none e hl2).symm
          refine ⟨_, rfl, s, 2, rfl, D6.same u6, by decide, by decide, fun r3 H7 r30 r31 D7 b7 => ?_⟩
          obtain ⟨nd, hnd, nd0, nd1⟩ : ∃ nd, atI [V.int r1, V.int (c - r2)] r3 = some (V.int nd) ∧ 0 ≤ nd ∧ nd ≤ c := by
            have : r3 = ((0 : Nat) : Int) ∨ r3 = ((1 : Nat) : Int) := by omega
            rcases this with q | q
            · exact ⟨r1, at_of q rfl, r10, by omega⟩
            · exact ⟨c - r2, at_of q rfl, by omega, by omega⟩
          refine ⟨l2, _, _, _, rfl, rfl, SqL.of (b7 _ _ ns2 upd_same), hnd, ?_⟩
          have b47 : But s H4 H7 := b5.trans (b6.trans ((But.of u6).trans b7))
          have l7 : H7 l = some (.lst ws) := b47 _ _ nsl.symm (b4 _ _ nsl.symm e3)
          refine ⟨_, rfl, .inl ⟨rfl, _, SqL.of l7⟩, by show 2 ≤ sizeLine; decide, fun l3 hl3 => ?_⟩
          have u7 : Same H7 (upd H7 l3 (.lst [.str "red", .str "blue"])) := same_upd hl3
          have ns3 : l3 ≠ s := let ⟨_, e⟩ := D7.lst; (ne_of_none e hl3).symm
          refine ⟨_, rfl, s, 2, rfl, D7.same u7, by decide, by decide, fun r4 H9 r40 r41 D9 b9 => ?_⟩
          obtain ⟨bb, hbb⟩ : ∃ bb, atI [V.str "red", V.str "blue"] r4 = some (V.str (roomS bb)) := by
            have : r4 = ((0 : Nat) : Int) ∨ r4 = ((1 : Nat) : Int) := by omega
            rcases this with q | q
            · exact ⟨true, at_of q rfl⟩
            · exact ⟨false, at_of q rfl⟩
          refine ⟨l3, _, _, _, rfl, rfl, SqL.of (b9 _ _ ns3 upd_same), hbb, _, rfl, by show 2 ≤ sizeLine; decide, fun t ht => ?_⟩
          have b49 : But s H4 (upd H9 t (.tup [.str (roomS bb), .int nd])) := b47.trans ((But.of u7).trans (b9.trans (But.of (same_upd ht))))
          refine ⟨l, ws, _, rfl, rfl, b49 _ _ nsl.symm (b4 _ _ nsl.symm e3), hlen, ?_⟩
          exact fin _ t (.meet bb nd) _ _ (b4.trans b49) (D9.same (same_upd ht)) upd_same ⟨nd0, nd1⟩ (b04.trans b49)
      · rw [decide_eq_false htu]
        refine iteF ?_
        have D4 := D3
        have b4 : But s H3 H3 := But.refl s H3
        have b04 := b3
        refine ⟨_, rfl, _, rfl, _, _, rfl, rfl, s, c + 1, rfl, D4, by omega, by omega, fun r1 H5 r10 r11 D5 b5 => ?_⟩
        refine ⟨_, rfl, _, rfl, _, rfl, _, _, rfl, rfl, ⟨by decide, by decide⟩, _, _, rfl, rfl, s, c / 3 + 1, rfl, D5, by omega, by omega, fun r2 H6 r20 r21 D6 b6 => ⟨_, _, rfl, rfl, by show 2 ≤ sizeLine; decide, fun l2 hl2 => ?_⟩⟩
        have u6 : Same H6 (upd H6 l2 (.lst [.int r1, .int (c - r2)])) := same_upd hl2
        have ns2 : l2 ≠ s := let ⟨_, e⟩ := D6.lst; (ne_of_none e hl2).symm
        refine ⟨_, rfl, s, 2, rfl, D6.same u6, by decide, by decide, fun r3 H7 r30 r31 D7 b7 => ?_⟩
        obtain ⟨nd, hnd, nd0, nd1⟩ : ∃ nd, atI [V.int r1, V.int (c - r2)] r3 = some (V.int nd) ∧ 0 ≤ nd ∧ nd ≤ c := by
          have : r3 = ((0 : Nat) : Int) ∨ r3 = ((1 : Nat) : Int) := by omega
          rcases this with q | q
          · exact ⟨r1, at_of q rfl, r10, by omega⟩
          · exact ⟨c - r2, at_of q rfl, by omega, by omega⟩
        refine ⟨l2, _, _, _, rfl, rfl, SqL.of (b7 _ _ ns2 upd_same), hnd, ?_⟩
        have b47 : But s H3 H7 := b5.trans (b6.trans ((But.of u6).trans b7))
        have l7 : H7 l = some (.lst ws) := b47 _ _ nsl.symm (b4 _ _ nsl.symm e3)
        refine ⟨_, rfl, .inl ⟨rfl, _, SqL.of l7⟩, by show 2 ≤ sizeLine; decide, fun l3 hl3 => ?_⟩
        have u7 : Same H7 (upd H7 l3 (.lst [.str "red", .str "blue"])) := same_upd hl3
        have ns3 : l3 ≠ s := let ⟨_, e⟩ := D7.lst; (ne_of_none e hl3).symm
        refine ⟨_, rfl, s, 2, rfl, D7.same u7, by decide, by decide, fun r4 H9 r40 r41 D9 b9 => ?_⟩
        obtain ⟨bb, hbb⟩ : ∃ bb, atI [V.str "red", V.str "blue"] r4 = some (V.str (roomS bb)) := by
          have : r4 = ((0 : Nat) : Int) ∨ r4 = ((1 : Nat) : Int) := by omega
          rcases this with q | q
          · exact ⟨true, at_of q rfl⟩
          · exact ⟨false, at_of q rfl⟩
        refine ⟨l3, _, _, _, rfl, rfl, SqL.of (b9 _ _ ns3 upd_same), hbb, _, rfl, by show 2 ≤ sizeLine; decide, fun t ht => ?_⟩
        have b49 : But s H3 (upd H9 t (.tup [.str (roomS bb), .int nd])) := b47.trans ((But.of u7).trans (b9.trans (But.of (same_upd ht))))
        refine ⟨l, ws, _, rfl, rfl, b49 _ _ nsl.symm (b4 _ _ nsl.symm e3), hlen, ?_⟩
        exact fin _ t (.meet bb nd) _ _ (b4.trans b49) (D9.same (same_upd ht)) upd_same ⟨nd0, nd1⟩ (b04.trans b49)
    · rintro σ H3 ⟨x, y, ws, ss, rfl, e3, s3, n3, o3, D3, b3⟩
      exact ⟨_, rfl, k l ws ss H3 hl0 e3 s3 (by omega) o3 D3 b3⟩
theorem scLPlan : FnScope ["_law_steps", "_law_result", "_law_step"] ["_law_steps"] (defScope sLPlan) := ⟨rfl, rfl, rfl, by decide +kernel, rfl, by decide +kernel, by decide +kernel⟩
theorem ok_lplan {f fI fJ : Addr} {fd : FuncData} (F : Fun K "_law_plan" "_law_plan" sLPlan f fd) (T : Txt K mg C TU pS gS mc) (M : Mk K C fI) (GI : FnR P w K mg base CX0 3 fI (spInit C)) (MJ : Meth K C "joined" fJ) (GJ : FnR P w K mg base CX0 5 fJ (spJoined C)) : FnOk P w K mg base CX0 6 f fd ["_law_steps"] (spLPlan C) := by
  refine F.ok scLPlan (fun vs H Q E h => ?_) (fun cdv A outer s H vs Q E hr h => ?_)
  · obtain ⟨l, ws, ss, rfl, _⟩ := h
    rfl
  · obtain ⟨l, ws, ss, rfl, hl, hs, hn, ho, k⟩ := h
    have hr4 : Room 4 _ := hr.mono (by decide)
    refine ⟨_, pss_cons (ps_set (i := 1) scLPlan.nd rfl (.inl rfl) (pe_makeR0 M GI hr4 rfl T.gP pass0))
      (pss_cons (ps_for PassesOwn.never rfl (pi_list (pv 0)) (pg_name (i := 2) scLPlan.nd rfl (.inl rfl))
        (pss_one (ps_set (i := 1) scLPlan.nd rfl (.inl rfl) (pe_methR (pv 1) T.cl MJ GJ hr pass0 (pa_cons (StX.pe_makeR M GI hr4 rfl T.gP pass0 (pa_cons (pv 2) pa_nil)) pa_nil)))))
      (pss_one (ps_ret (pv 1)))), ?_⟩
    intro x dx hx hdx hne
    have made : ∀ {H : Hp} {x dx : Addr}, H x = none → H dx = none → Same H (upd (upd H dx (.own x)) x (.ins C dx [])) := fun hx hdx b o e => by
      rw [upd_ne (ne_of_none e hx), upd_ne (ne_of_none e hdx)]
      exact e
    refine ⟨x, dx, [], [], rfl, upd_same, .nil, by decide, by simp, fun H1 tp b1 b2 b3 => ⟨rfl, ?_⟩⟩
    have s1 : Same H H1 := fun b o e => b1 b o (ne_of_none e hx) (made hx hdx b o e)
    refine ⟨_, rfl, l, rfl, ⟨_, SqL.of (s1 _ _ hl)⟩, for_list (K := K) (a := l) (xs := ws) (fun i σ H' => ∃ (p : Addr) (v : Option V), σ = [some (.ref l), some (.ref p), v] ∧ Same H H' ∧ PlanAt C H' p (ss.take i))
      ⟨x, none, rfl, s1, dx, tp, [], b2, b3, .nil⟩ (fun i σ H' _ ⟨_, _, _, s2, _⟩ => SqL.of (s2 _ _ hl)) ?_ ?_⟩
    · rintro i y σ H' hi ⟨p, v, rfl, s2, pl⟩
      obtain ⟨st, hst, t, rfl, ht⟩ := hs.get hi
      have okst := ho st (List.mem_of_getElem? hst)
      obtain ⟨dp, tq, zs, e1, e2, e3⟩ := id pl
      refine ⟨_, rfl, p, dp, _, rfl, e1, lk_no (by decide +kernel), _, rfl, fun q dq hq hdq hne => ?_⟩
      have s3 : Same H' (upd (upd H' dq (.own q)) q (.ins C dq [])) := made hq hdq
      have ht2 := s3 _ _ (s2 _ _ ht)
      refine ⟨q, dq, [.ref t], [st], rfl, upd_same,   .cons ⟨t, rfl, ht2⟩ .nil, by show 1 ≤ 60; decide, fun z hz => (List.mem_singleton.mp hz) ▸ okst, fun H2 tz b4 b5 b6 => ⟨rfl, ?_⟩⟩
      have s4 : Same H' H2 := fun b o e => b4 b o (ne_of_none e hq) (s3 b o e)
      have le : i < ss.length := (List.getElem?_eq_some_iff.mp hst).1
      have et : ss.take i ++ [st] = ss.take (i + 1) := (take_more hst).symm
      refine ⟨p, ss.take i, q, [st], rfl, pl.same s4, ⟨dq, tz, [.ref t], b5, b6, .cons ⟨t, rfl, s4 _ _ (s2 _ _ ht)⟩ .nil⟩, ?_, ?_, fun r H3 s5 pr => ?_⟩
      · rw [et, List.length_take]
        omega
      · rw [et]
        exact fun z hz => ho z (List.mem_of_mem_take hz)
      · rw [et] at pr
        exact ⟨r, _, rfl, (s2.trans s4).trans s5, pr⟩
    · rintro σ H' ⟨p, v, rfl, s2, pl⟩
      rw [hs.length, List.take_length] at pl
      exact ⟨_, rfl, k p H' s2 pl⟩
end
end Cc

namespace Cc
open PySem PySem.Spec PyProof.Rows L2
abbrev sAStep : Stmt := top 16
abbrev sASteps : Stmt := top 17
def spAStep : Sp := fun vs H Q _ => ∃ (v : V) (s : Stp) (c r : Int), vs = [v, .int c, .int r] ∧ StepAt H v s ∧ ∀ p H', Same H H' → H' p = some (.tup [.int (stepF c s r).1, .int (stepF c s r).2]) → Q (.ref p) H'
def spASteps (K : PySem.W.Frag) : Sp := fun vs H Q _ => ∃ (t : Addr) (ws : List V) (ss : List Stp) (c r : Int), vs = [.ref t, .int c, .int r] ∧ SqT K H t ws ∧ (∀ H', Same H H' → SqT K H' t ws) ∧ Steps H ws ss ∧ ∀ p H', Same H H' → H' p = some (.tup [.int (stepsF c ss (r, 0)).1, .int (stepsF c ss (r, 0)).2]) → Q (.ref p) H'
section
variable {P : Program} {w : World} {K : PySem.W.Frag} {mg : Str → Option Value} {base : Heap} {C TU pS gS : Addr} {mc : Value}
theorem scAStep : FnScope ["step", "chairs", "red", "room", "need", "missing"] ["step", "chairs", "red"] (defScope sAStep) := ⟨rfl, rfl, rfl, by decide +kernel, rfl, by decide +kernel, by decide +kernel⟩
theorem ok_astep {f : Addr} {fd : FuncData} (F : Fun K "after_step" "after_step" sAStep f fd) (T : Txt K mg C TU pS gS mc) : FnOk P w K mg base CX0 1 f fd ["step", "chairs", "red"] spAStep := by
  refine F.ok scAStep (fun vs H Q E h => ?_) (fun cdv A outer s H vs Q E hr h => ?_)
  · obtain ⟨v, s, c, r, rfl, _⟩ := h
    rfl
  · obtain ⟨v, st, c, r, rfl, ⟨t, rfl, ht⟩, k⟩ := h
    refine ⟨_, pss_cons (ps_if (pt_cmpR (op_eqD hr.units) (pv 0) (pe_glob (v := .ref TU) rfl T.gT rfl) (nomark _)) (pss_one (ps_ret (pe_tup (pa_cons (pe_op op_sub (pv 1) (pv 2)) (pa_cons pe_int pa_nil))))) pss_nil)
      (pss_cons (ps_asg (pv 0) (pg_tup rfl (pgs_cons (pg_name (i := 3) scAStep.nd rfl (.inl rfl)) (pgs_cons (pg_name (i := 4) scAStep.nd rfl (.inl rfl)) pgs_nil))))
      (pss_cons (ps_if (pt_cmpR op_eq (pv 3) pe_str (nomark _))
        (pss_cons (ps_set (i := 5) scAStep.nd rfl (.inl rfl) (pe_callB (call_max2 rfl) (by rfl) T.b.max (by decide +kernel) (pa_cons pe_int (pa_cons (pe_op op_sub (pv 4) (pv 2)) pa_nil))))
        (pss_one (ps_ret (pe_tup (pa_cons (pe_op op_add (pv 2) (pv 5)) (pa_cons (pv 5) pa_nil)))))) pss_nil)
      (pss_cons (ps_set (i := 5) scAStep.nd rfl (.inl rfl) (pe_callB (call_max2 rfl) (by rfl) T.b.max (by decide +kernel) (pa_cons pe_int (pa_cons (pe_op op_sub (pv 4) (pe_op op_sub (pv 1) (pv 2))) pa_nil))))
      (pss_one (ps_ret (pe_tup (pa_cons (pe_op op_sub (pv 2) (pv 5)) (pa_cons (pv 5) pa_nil)))))))), ?_⟩
    cases st with
    | turn =>
      refine ⟨_, rfl, .tuple [.str "turn"], .tuple [.str "turn"], .tup (SqT.of ht) (.cons (.str _) .nil), .tup (T.tT _) (.cons (.str _) .nil), by decide +kernel, by decide +kernel, _, rfl, ?_⟩
      rw [eqv_turn]
      refine iteT ⟨_, rfl, _, rfl, _, _, rfl, rfl, by show 2 ≤ sizeLine; decide, fun p hp => ?_⟩
      exact k p _ (same_upd hp) upd_same
    | meet bb n =>
      refine ⟨_, rfl, .tuple [.str (roomS bb), .int n], .tuple [.str "turn"], .tup (SqT.of ht) (.cons (.str _) (.cons (.int _) .nil)), .tup (T.tT _) (.cons (.str _) .nil), shaped_meet bb n, by decide +kernel, _, rfl, ?_⟩
      rw [eqv_meet]
      refine iteF ⟨_, rfl, t, _, rfl, SqT.of ht, rfl, _, _, rfl, _, _, rfl, rfl, ?_⟩
      refine ⟨_, rfl, rfl, _, rfl, ?_⟩
      rw [room_eq]
      cases bb with
      | true =>
        refine iteT ⟨_, rfl, _, rfl, _, _, rfl, rfl, _, _, rfl, ?_⟩
        refine ⟨_, rfl, _, rfl, _, _, rfl, rfl, _, rfl, by show 2 ≤ sizeLine; decide, fun p hp => ?_⟩
        exact k p _ (same_upd hp) upd_same
      | false =>
        refine iteF ⟨_, rfl, _, rfl, _, rfl, _, _, rfl, rfl, _, _, rfl, rfl, _, _, rfl, ?_⟩
        refine ⟨_, rfl, _, rfl, _, _, rfl, rfl, _, rfl, by show 2 ≤ sizeLine; decide, fun p hp => ?_⟩
        exact k p _ (same_upd hp) upd_same
theorem scASteps : FnScope ["steps", "chairs", "red", "total", "step", "carried"] ["steps", "chairs", "red"] (defScope sASteps) := ⟨rfl, rfl, rfl, by decide +kernel, rfl, by decide +kernel, by decide +kernel⟩
theorem ok_asteps {f fA : Addr} {fd : FuncData} (F : Fun K "after_steps" "after_steps" sASteps f fd) (D : Dn P w K mg base 1 "after_step" fA spAStep) : FnOk P w K mg base CX0 2 f fd ["steps", "chairs", "red"] (spASteps K) := by
  refine F.ok scASteps (fun vs H Q E h => ?_) (fun cdv A outer s H vs Q E hr h => ?_)
  · obtain ⟨t, ws, ss, c, r, rfl, _⟩ := h
    rfl
  · obtain ⟨t, ws, ss, c, r, rfl, hT, hT2, hs, k⟩ := h
    refine ⟨_, pss_cons (ps_set (i := 3) scASteps.nd rfl (.inl rfl) pe_int)
      (pss_cons (ps_for PassesOwn.never rfl (pi_tup (pv 0)) (pg_name (i := 4) scASteps.nd rfl (.inl rfl))
        (pss_cons (ps_asg (pe_callR D.ok hr rfl D.at_ D.kp pass0 (pa_cons (pv 4) (pa_cons (pv 1) (pa_cons (pv 2) pa_nil)))) (pg_tup rfl (pgs_cons (pg_name (i := 2) scASteps.nd rfl (.inl rfl)) (pgs_cons (pg_name (i := 5) scASteps.nd rfl (.inl rfl)) pgs_nil))))
        (pss_one (ps_aug (i := 3) scASteps.nd rfl (.inl rfl) (pv 5) ip_add))))
      (pss_one (ps_ret (pe_tup (pa_cons (pv 2) (pa_cons (pv 3) pa_nil)))))), ?_⟩
    refine ⟨_, rfl, t, rfl, ⟨_, hT⟩, for_tup (K := K) (a := t) (xs := ws) (fun i σ H' => ∃ (x y : Option V), σ = [some (.ref t), some (.int c), some (.int (stepsF c (ss.take i) (r, 0)).1), some (.int (stepsF c (ss.take i) (r, 0)).2), x, y] ∧ Same H H')
      ⟨none, none, rfl, Same.refl H⟩ (fun i σ H' _ ⟨_, _, _, s1⟩ => hT2 _ s1) ?_ ?_⟩
    · rintro i v σ H' hi ⟨x, y, rfl, s1⟩
      obtain ⟨st, hst, q, rfl, hq⟩ := hs.get hi
      refine ⟨_, rfl, _, rfl, _, rfl, _, st, c, _, rfl, ⟨q, rfl, s1 _ _ hq⟩, fun p H2 s2 e2 => ?_⟩
      refine ⟨p, _, rfl, SqT.of e2, rfl, _, _, rfl, _, _, rfl, rfl, ?_⟩
      refine ⟨_, rfl, _, rfl, _, _, rfl, rfl, ?_⟩
      refine ⟨some (.ref q), some (.int (stepF c st (stepsF c (ss.take i) (r, 0)).1).2), ?_, s1.trans s2⟩
      rw [take_more hst, stepsF_one]
      rfl
    · rintro σ H' ⟨x, y, rfl, s1⟩
      rw [hs.length, List.take_length]
      refine ⟨_, rfl, _, rfl, by show 2 ≤ sizeLine; decide, fun p hp => ?_⟩
      exact k p _ (s1.trans (same_upd hp)) upd_same
end
end Cc

/-! Nobody carries less: the least price of each place behind the steps. -/
namespace Cc
open PySem PySem.Spec PyProof.Rows L2
def ab (i : Int) : Int := if i < 0 then -i else i
/-- the prices of the places 0, 1, .. when T are carried and pos is the lazy place -/
def priceF (n : Nat) (T pos : Int) : List Int := (List.range n).map fun (g : Nat) => T + ab ((g : Int) - pos)
/-- the place (chairs in the room that was red at first), by the side -/
def placeF (c side r : Int) : Int := if side = 1 then r else c - r
/-- the places that a meeting allows -/
def goodF (c : Int) (first : Bool) (need : Int) (n : Nat) : List Nat := (List.range n).filter fun (g : Nat) => decide (need ≤ if first = true then (0 + (g : Int)) else c - (0 + (g : Int)))
theorem mem_goodF {c : Int} {first : Bool} {need : Int} {n g : Nat} : g ∈ goodF c first need n ↔ g < n ∧ need ≤ (if first = true then (g : Int) else c - g) := by
  unfold goodF
  rw [List.mem_filter, List.mem_range]
  simp
/-- a meeting moves the lazy place to the nearest that it allows -/
theorem place_meet {c side r n : Int} {b : Bool} (hs : side = 1 ∨ side = -1) (h0 : 0 ≤ r) (h1 : r ≤ c) (n0 : 0 ≤ n) (n1 : n ≤ c) (first : Bool) (hf : first = (b == decide (side = 1))) :
    placeF c side (stepF c (.meet b n) r).1 = (if first = true then (if placeF c side r < n then n else placeF c side r) else (if c - n < placeF c side r then c - n else placeF c side r)) ∧
    (stepF c (.meet b n) r).2 = ab (placeF c side (stepF c (.meet b n) r).1 - placeF c side r) := by
  subst hf
  rcases hs with rfl | rfl <;> cases b <;> simp [placeF, stepF, mx, ab] <;> omega
theorem place_in {c side r : Int} (h0 : 0 ≤ r) (h1 : r ≤ c) : 0 ≤ placeF c side r ∧ placeF c side r ≤ c := by
  unfold placeF
  split <;> omega
/-- the new price of a place -/
theorem price_meet {c side r n T : Int} {b : Bool} (hs : side = 1 ∨ side = -1) (h0 : 0 ≤ r) (h1 : r ≤ c) (n0 : 0 ≤ n) (n1 : n ≤ c) (first : Bool) (hf : first = (b == decide (side = 1))) (g : Int) :
    (∃ p : Nat, p ∈ goodF c first n (c + 1).toNat ∧ (T + ab ((p : Int) - placeF c side r)) + ab ((p : Int) - g) = (T + (stepF c (.meet b n) r).2) + ab (g - placeF c side (stepF c (.meet b n) r).1)) ∧
    ∀ p : Nat, p ∈ goodF c first n (c + 1).toNat → (T + (stepF c (.meet b n) r).2) + ab (g - placeF c side (stepF c (.meet b n) r).1) ≤ (T + ab ((p : Int) - placeF c side r)) + ab ((p : Int) - g) := by
  obtain ⟨e1, e2⟩ := place_meet hs h0 h1 n0 n1 first hf
  obtain ⟨p0, p1⟩ := place_in (side := side) h0 h1
  rw [e2]
  generalize placeF c side r = pos at *
  generalize placeF c side (stepF c (.meet b n) r).1 = pos' at *
  have hp0 : 0 ≤ pos' := by
    subst e1
    split <;> split <;> omega
  refine ⟨⟨pos'.toNat, mem_goodF.mpr ⟨?_, ?_⟩, ?_⟩, fun p hp => ?_⟩
  · subst e1
    split <;> split <;> omega
  · have q : ((pos'.toNat : Nat) : Int) = pos' := by omega
    rw [q]
    subst e1
    cases first <;> simp <;> split <;> omega
  · have q : ((pos'.toNat : Nat) : Int) = pos' := by omega
    rw [q]
    unfold ab
    split <;> split <;> split <;> omega
  · obtain ⟨hp1, hp2⟩ := mem_goodF.mp hp
    unfold ab
    cases first
    · simp at e1 hp2
      subst e1
      split <;> split <;> split <;> split <;> omega
    · simp at e1 hp2
      subst e1
      split <;> split <;> split <;> split <;> omega
theorem least_is {ns : List Int} {m v : Int} (h1 : m ∈ ns) (h2 : ∀ x ∈ ns, m ≤ x) (h3 : v ∈ ns) (h4 : ∀ x ∈ ns, v ≤ x) : m = v := Int.le_antisymm (h2 v h3) (h4 m h1)
theorem priceF_get {n : Nat} {T pos : Int} {p : Nat} (h : p < n) : (priceF n T pos)[p]? = some (T + ab ((p : Int) - pos)) := by
  unfold priceF
  rw [List.getElem?_map, List.getElem?_range h]
  rfl
end Cc
namespace Cc
open PySem PySem.Spec PyProof.Rows L2
theorem ifT {c : Bool} {A B : Prop} (hc : c = true) (h : A) : if c = true then A else B := by
  rw [if_pos hc]
  exact h
theorem ifF {c : Bool} {A B : Prop} (hc : c = false) (h : B) : if c = true then A else B := by
  rw [hc, if_neg Bool.false_ne_true]
  exact h
theorem same_new {H H' : Hp} {D : Addr} {o : HO} (h : H D = none) (s : Same H H') : Same H (upd H' D o) := fun b u e => by
  rw [upd_ne (ne_of_none e h)]
  exact s b u e
theorem upd_lst {H : Hp} {D : Addr} {xs ys : List V} (h : xs = ys) : upd H D (.lst xs) D = some (.lst ys) := by
  rw [h]
  exact upd_same
theorem priceF_succ (n : Nat) (T pos : Int) : (priceF (n + 1) T pos).map V.int = (priceF n T pos).map V.int ++ [V.int (T + ab ((n : Int) - pos))] := by
  unfold priceF
  rw [List.range_succ, List.map_append, List.map_append]
  rfl
theorem priceF_len (n : Nat) (T pos : Int) : (priceF n T pos).length = n := by
  simp [priceF]
def goodV (c : Int) (first : Bool) (need : Int) (n : Nat) : List V := (goodF c first need n).map fun (p : Nat) => V.int (0 + (p : Int))
theorem goodV_succ (c : Int) (first : Bool) (need : Int) (n : Nat) (h : (decide (need ≤ if first = true then (0 + (n : Int)) else c - (0 + (n : Int)))) = true) : goodV c first need (n + 1) = goodV c first need n ++ [V.int (0 + (n : Int))] := by
  unfold goodV goodF
  rw [List.range_succ, List.filter_append, List.map_append]
  simp only [List.filter_cons, h, if_true, List.filter_nil, List.map_cons, List.map_nil]
theorem goodV_skip (c : Int) (first : Bool) (need : Int) (n : Nat) (h : (decide (need ≤ if first = true then (0 + (n : Int)) else c - (0 + (n : Int)))) = false) : goodV c first need (n + 1) = goodV c first need n := by
  unfold goodV goodF
  rw [List.range_succ, List.filter_append, List.map_append]
  simp only [List.filter_cons, h, Bool.false_eq_true, if_false, List.filter_nil, List.map_nil, List.append_nil]
theorem goodV_len (c : Int) (first : Bool) (need : Int) (n : Nat) : (goodV c first need n).length ≤ n := by
  unfold goodV goodF
  rw [List.length_map]
  exact Nat.le_trans (List.length_filter_le _ _) (by rw [List.length_range]; exact Nat.le_refl n)
theorem room_turn (b : Bool) : decide (V.str (roomS b) = V.str "turn") = false := by
  cases b <;> decide +kernel
theorem first_eq (b : Bool) (side : Int) : decide (V.bl (decide (V.str (roomS b) = V.str "red")) = V.bl (decide (V.int side = V.int 1))) = (b == decide (side = 1)) := by
  rw [room_eq]
  have e : decide (V.int side = V.int 1) = decide (side = 1) := by
    by_cases h : side = 1
    · subst h; simp
    · rw [decide_eq_false h, decide_eq_false fun z => h (by injection z)]
  rw [e]
  cases b <;> cases decide (side = 1) <;> decide
theorem small_line {i n : Nat} (h : i < n) (hn : n ≤ 2000) : i < sizeLine := by
  rw [sizeLine_eq]
  omega
end Cc

/-! summary: what a plan does to all starts. -/
namespace Cc
open PySem PySem.Spec PyProof.Rows L2
structure Sm where
  low : Int
  high : Int
  extra : Int
  goal : Option Int
  turned : Bool
def goalV : Option Int → V
  | none => .non
  | some g => .int g
/-- how many chairs the room that was red at first may have -/
def allowF (c : Int) (t b : Bool) (n : Int) : Int × Int := if b == t then (0, c - n) else (n, c)
def nearF (g a b : Int) : Int := if b < (if a > g then a else g) then b else (if a > g then a else g)
/-- a meeting behind steps that only keep to a range -/
def narrowF (lo hi a b : Int) : Int × Int × Int × Option Int :=
  if a > hi then (hi, hi, a - hi, some a) else if b < lo then (lo, lo, lo - b, some b) else (mx lo a, (if b < hi then b else hi), 0, none)
def smStep (c : Int) (m : Sm) : Stp → Sm
  | .turn => { m with turned := !m.turned }
  | .meet b n => match m.goal with
    | none => let z := narrowF m.low m.high (allowF c m.turned b n).1 (allowF c m.turned b n).2; { m with low := z.1, high := z.2.1, extra := z.2.2.1, goal := z.2.2.2 }
    | some g => { m with extra := m.extra + ab (nearF g (allowF c m.turned b n).1 (allowF c m.turned b n).2 - g), goal := some (nearF g (allowF c m.turned b n).1 (allowF c m.turned b n).2) }
def smSteps (c : Int) (ss : List Stp) : Sm := ss.foldl (smStep c) ⟨0, c, 0, none, false⟩
theorem smSteps_more (c : Int) (ss : List Stp) (s : Stp) : smSteps c (ss ++ [s]) = smStep c (smSteps c ss) s := by
  unfold smSteps
  rw [List.foldl_append]
  rfl
def smEnd (m : Sm) : Sm := if m.low = m.high ∧ m.goal = none then { m with goal := some m.low } else m
def sideF (t : Bool) : Int := if t then -1 else 1
/-- what a summary says of a start, of the carried and the place -/
structure SmOk (c : Int) (m : Sm) : Prop where
  l0 : 0 ≤ m.low
  lh : m.low ≤ m.high
  h1 : m.high ≤ c
  g : ∀ z, m.goal = some z → 0 ≤ z ∧ z ≤ c
  e : m.goal = none → m.extra = 0
def distF (lo hi x : Int) : Int := if x < lo then lo - x else if hi < x then x - hi else 0
def clampF (lo hi x : Int) : Int := if x < lo then lo else if hi < x then hi else x
def SmSays (m : Sm) (x total place : Int) : Prop := total = distF m.low m.high x + m.extra ∧ place = (match m.goal with | none => clampF m.low m.high x | some z => z)
theorem says_start (c x : Int) (h0 : 0 ≤ x) (h1 : x ≤ c) : SmOk c ⟨0, c, 0, none, false⟩ ∧ SmSays ⟨0, c, 0, none, false⟩ x 0 (placeF c 1 x) := by
  refine ⟨⟨Int.le_refl 0, by show 0 ≤ c; omega, Int.le_refl c, (fun z h => nomatch h), fun _ => rfl⟩, ?_, ?_⟩
  · show 0 = distF 0 c x + 0
    unfold distF
    split
    · omega
    · split <;> omega
  · show placeF c 1 x = clampF 0 c x
    unfold placeF clampF
    simp
    split
    · omega
    · split <;> omega
theorem smOk_step {c : Int} {m : Sm} {s : Stp} (h : SmOk c m) (hs : s.ok c) : SmOk c (smStep c m s) := by
  obtain ⟨low, high, extra, goal, turned⟩ := m
  obtain ⟨l0, lh, h1, hg, he⟩ := h
  simp only at l0 lh h1 hg he
  cases s with
  | turn => exact ⟨l0, lh, h1, hg, he⟩
  | meet b n =>
    obtain ⟨n0, n1⟩ := hs
    cases goal with
    | none =>
      simp only [smStep, narrowF, allowF, mx]
      cases b <;> cases turned <;> simp <;> (split <;> first
        | (constructor <;> simp <;> omega)
        | (split <;> (constructor <;> simp <;> omega)))
    | some z =>
      have hz := hg z rfl
      simp only [smStep, nearF, allowF]
      refine ⟨l0, lh, h1, fun y hy => ?_, fun q => nomatch q⟩
      simp only [Option.some.injEq] at hy
      subst hy
      cases b <;> cases turned <;> simp <;> split <;> split <;> omega
theorem side_of (t : Bool) : sideF t = 1 ∨ sideF t = -1 := by
  cases t <;> simp [sideF]
theorem narrow_says {lo hi a b x : Int} (h : lo ≤ hi) (hab : a ≤ b) : distF lo hi x + ab (clampF a b (clampF lo hi x) - clampF lo hi x) = distF (narrowF lo hi a b).1 (narrowF lo hi a b).2.1 x + (narrowF lo hi a b).2.2.1 ∧
    clampF a b (clampF lo hi x) = (match (narrowF lo hi a b).2.2.2 with | none => clampF (narrowF lo hi a b).1 (narrowF lo hi a b).2.1 x | some z => z) := by
  unfold narrowF
  by_cases q1 : a > hi
  · rw [if_pos q1]
    simp only [distF, clampF, ab]
    omega
  · rw [if_neg q1]
    by_cases q2 : b < lo
    · rw [if_pos q2]
      simp only [distF, clampF, ab]
      omega
    · rw [if_neg q2]
      simp only [distF, clampF, ab, mx]
      omega
theorem near_is {g a b : Int} (hab : a ≤ b) : nearF g a b = clampF a b g := by
  unfold nearF clampF
  omega
/-- a meeting moves the place to the nearest that it allows -/
theorem place_allow {c r n : Int} {b t : Bool} (r0 : 0 ≤ r) (r1 : r ≤ c) (n0 : 0 ≤ n) (n1 : n ≤ c) :
    placeF c (sideF t) (stepF c (.meet b n) r).1 = clampF (allowF c t b n).1 (allowF c t b n).2 (placeF c (sideF t) r) ∧ (stepF c (.meet b n) r).2 = ab (placeF c (sideF t) (stepF c (.meet b n) r).1 - placeF c (sideF t) r) ∧ (allowF c t b n).1 ≤ (allowF c t b n).2 := by
  cases b <;> cases t <;> simp [placeF, sideF, stepF, clampF, allowF, mx, ab] <;> omega
theorem says_step {c : Int} {m : Sm} {s : Stp} {x r total : Int} (ok : SmOk c m) (hs : s.ok c) (r0 : 0 ≤ r) (r1 : r ≤ c) (h : SmSays m x total (placeF c (sideF m.turned) r)) :
    SmSays (smStep c m s) x (total + (stepF c s r).2) (placeF c (sideF (smStep c m s).turned) (stepF c s r).1) := by
  obtain ⟨low, high, extra, goal, turned⟩ := m
  obtain ⟨l0, lh, hc1, hg, he⟩ := ok
  simp only at l0 lh hc1 hg he
  obtain ⟨e1, e2⟩ := h
  simp only at e1 e2
  cases s with
  | turn =>
    refine ⟨?_, ?_⟩
    · show total + 0 = distF low high x + extra
      omega
    · refine Eq.trans ?_ e2
      show placeF c (sideF (!turned)) (c - r) = placeF c (sideF turned) r
      cases turned <;> simp [placeF, sideF] <;> omega
  | meet b n =>
    obtain ⟨n0, n1⟩ := hs
    obtain ⟨f1, f2, f3⟩ := place_allow (c := c) (b := b) (t := turned) r0 r1 n0 n1
    cases goal with
    | none =>
      have he0 := he rfl
      subst he0
      simp only at e2
      obtain ⟨g1, g2⟩ := narrow_says (lo := low) (hi := high) (a := (allowF c turned b n).1) (b := (allowF c turned b n).2) (x := x) lh f3
      refine ⟨?_, ?_⟩
      · refine Eq.trans ?_ g1
        rw [f2, f1, e2, e1, Int.add_zero]
      · refine Eq.trans ?_ g2
        show placeF c (sideF turned) (stepF c (.meet b n) r).1 = _
        rw [f1, e2]
    | some z =>
      simp only at e2
      refine ⟨?_, ?_⟩
      · show total + (stepF c (.meet b n) r).2 = distF low high x + (extra + ab (nearF z (allowF c turned b n).1 (allowF c turned b n).2 - z))
        rw [near_is f3, f2, f1, e2, e1, Int.add_assoc]
      · show placeF c (sideF turned) (stepF c (.meet b n) r).1 = nearF z (allowF c turned b n).1 (allowF c turned b n).2
        rw [near_is f3, f1, e2]
theorem snoc_ind {α : Type} {M : List α → Prop} (h0 : M []) (h1 : ∀ l a, M l → M (l ++ [a])) (l : List α) : M l := by
  have q : ∀ k : List α, M k.reverse := fun k => by
    induction k with
    | nil => exact h0
    | cons a k ih =>
      rw [List.reverse_cons]
      exact h1 _ a ih
  have z := q l.reverse
  rw [List.reverse_reverse] at z
  exact z
/-- behind all steps -/
theorem smSteps_says {c x : Int} (x0 : 0 ≤ x) (x1 : x ≤ c) (ss : List Stp) : (∀ s ∈ ss, s.ok c) → SmOk c (smSteps c ss) ∧ SmSays (smSteps c ss) x (stepsF c ss (x, 0)).2 (placeF c (sideF (smSteps c ss).turned) (stepsF c ss (x, 0)).1) := by
  refine snoc_ind (M := fun ss => (∀ s ∈ ss, s.ok c) → SmOk c (smSteps c ss) ∧ SmSays (smSteps c ss) x (stepsF c ss (x, 0)).2 (placeF c (sideF (smSteps c ss).turned) (stepsF c ss (x, 0)).1)) (fun _ => says_start c x x0 x1) (fun us s ih hs => ?_) ss
  have hd : ∀ s ∈ us, s.ok c := fun z h => hs z (List.mem_append_left _ h)
  obtain ⟨ok, sy⟩ := ih hd
  obtain ⟨r0, r1, _⟩ := stepsF_in (c := c) (ss := us) (r := x) (t := 0) hd x0 x1 (Int.le_refl 0)
  have hg := hs s (List.mem_append_right _ List.mem_cons_self)
  rw [smSteps_more, stepsF_one]
  exact ⟨smOk_step ok hg, says_step ok hg r0 r1 sy⟩
theorem smEnd_says {c : Int} {m : Sm} {x total place : Int} (ok : SmOk c m) (h : SmSays m x total place) : SmOk c (smEnd m) ∧ SmSays (smEnd m) x total place ∧ ((smEnd m).low = (smEnd m).high → (smEnd m).goal ≠ none) ∧ (smEnd m).turned = m.turned := by
  obtain ⟨low, high, extra, goal, turned⟩ := m
  obtain ⟨l0, lh, hc1, hg, he⟩ := ok
  simp only at l0 lh hc1 hg he
  obtain ⟨e1, e2⟩ := h
  simp only at e1 e2
  unfold smEnd
  by_cases q : low = high ∧ goal = none
  · simp only [q, and_self, if_true]
    obtain ⟨q1, q2⟩ := q
    subst q1 q2
    simp only at e2
    refine ⟨⟨l0, Int.le_refl _, hc1, fun z hz => ?_, fun h => nomatch h⟩, ⟨e1, ?_⟩, (fun _ h => nomatch h), by first | rfl | trivial⟩
    · cases hz
      exact ⟨l0, hc1⟩
    · rw [e2]
      show clampF low low x = low
      unfold clampF
      omega
  · simp only [q, if_false]
    exact ⟨⟨l0, lh, hc1, hg, he⟩, ⟨e1, e2⟩, fun h1 h2 => q ⟨h1, h2⟩, by first | rfl | trivial⟩
/-- the number of turns -/
def turnsF (ss : List Stp) : Nat := (ss.filter fun s => match s with | .turn => true | .meet _ _ => false).length
theorem turned_is (c : Int) (ss : List Stp) : (smSteps c ss).turned = decide (turnsF ss % 2 = 1) := by
  refine snoc_ind (M := fun ss => (smSteps c ss).turned = decide (turnsF ss % 2 = 1)) rfl (fun us s ih => ?_) ss
  rw [smSteps_more]
  have ef : turnsF (us ++ [s]) = turnsF us + (match s with | .turn => 1 | .meet _ _ => 0) := by
    unfold turnsF
    rw [List.filter_append, List.length_append]
    cases s <;> rfl
  rw [ef]
  cases s with
  | turn =>
    show (!(smSteps c us).turned) = _
    rw [ih]
    by_cases q : turnsF us % 2 = 1
    · rw [decide_eq_true q, decide_eq_false (by simp only; omega)]
      rfl
    · rw [decide_eq_false q, decide_eq_true (by simp only; omega)]
      rfl
  | meet b z =>
    have et : (smStep c (smSteps c us) (.meet b z)).turned = (smSteps c us).turned := by
      unfold smStep
      cases (smSteps c us).goal <;> rfl
    rw [et, ih]
    rfl
end Cc

/-! The play of steps one by one; three more rules. -/
namespace Cc
open PySem PySem.Spec PyProof.Rows L2
def carryF (c : Int) : List Stp → Int → List Int
  | [], _ => []
  | s :: ss, r => (stepF c s r).2 :: carryF c ss (stepF c s r).1
theorem stepsF_fst (c : Int) : ∀ (ss : List Stp) (r t u : Int), (stepsF c ss (r, t)).1 = (stepsF c ss (r, u)).1
  | [], _, _, _ => rfl
  | s :: ss, r, t, u => stepsF_fst c ss (stepF c s r).1 _ _
theorem carryF_one (c : Int) (s : Stp) : ∀ (ss : List Stp) (r : Int), carryF c (ss ++ [s]) r = carryF c ss r ++ [(stepF c s (stepsF c ss (r, 0)).1).2]
  | [], r => rfl
  | z :: ss, r => by
    show (stepF c z r).2 :: carryF c (ss ++ [s]) (stepF c z r).1 = (stepF c z r).2 :: (carryF c ss (stepF c z r).1 ++ [(stepF c s (stepsF c ss ((stepF c z r).1, 0 + (stepF c z r).2)).1).2])
    rw [carryF_one c s ss (stepF c z r).1, stepsF_fst c ss (stepF c z r).1 0 (0 + (stepF c z r).2)]
theorem carryF_len (c : Int) : ∀ (ss : List Stp) (r : Int), (carryF c ss r).length = ss.length
  | [], _ => rfl
  | s :: ss, r => by
    show (carryF c ss (stepF c s r).1).length + 1 = ss.length + 1
    rw [carryF_len c ss]
theorem carryF_sum (c : Int) : ∀ (ss : List Stp) (r : Int), (carryF c ss r).sum = (stepsF c ss (r, 0)).2
  | [], _ => rfl
  | s :: ss, r => by
    show ((stepF c s r).2 :: carryF c ss (stepF c s r).1).sum = (stepsF c ss ((stepF c s r).1, 0 + (stepF c s r).2)).2
    rw [List.sum_cons, carryF_sum c ss, stepsF_add c ss (stepF c s r).1 (0 + (stepF c s r).2), Int.zero_add]
theorem nuMax3_int (a b z : Int) : nuMax3 (.int a) (.int b) (.int z) = some (.int (if (if a < b then b else a) < z then z else (if a < b then b else a))) := by
  by_cases h : a < b
  · by_cases h2 : b < z <;> simp [nuMax3, nuMax2, nuLt, nuCB, h, h2]
  · by_cases h2 : a < z <;> simp [nuMax3, nuMax2, nuLt, nuCB, h, h2]
/-- a <= b <= c <= d, a test -/
def tChain3 (r1 r2 r3 : R2) (ta tb tc td : TE) : TT := fun σ H Q => ta σ H fun x H1 => tb σ H1 fun y H2 => r1 x y H2 fun z H3 => ∃ k, z = .bl k ∧
  (if k = true then tc σ H3 fun x2 H4 => r2 y x2 H4 fun z2 H5 => ∃ k2, z2 = .bl k2 ∧ (if k2 = true then td σ H5 fun x3 H6 => r3 x2 x3 H6 fun z3 H7 => ∃ k3, z3 = .bl k3 ∧ Q k3 H7 else Q false H5) else Q false H3)
section
variable {X : Cx} {a b c d : Expr} {ta tb tc td : TE} {pos : Pos}
theorem pt_chain3 {o1 o2 o3 : CmpOp} {r1 r2 r3 : R2} (h1 : OpR X (compareOp o1) r1) (h2 : OpR X (compareOp o2) r2) (h3 : OpR X (compareOp o3) r3) (ha : PE X a ta) (hb : PE X b tb) (hc : PE X c tc) (hd : PE X d td)
    (hm : lastMarks [o1, o2, o3] [b, c, d] = false := by with_unfolding_all rfl) : PT X (.Compare a [o1, o2, o3] [b, c, d] pos) (tChain3 r1 r2 r3 ta tb tc td) := by
  refine ⟨fun pn s sg Hh Qq J h => isTrue_chain ?_ hm⟩
  refine thn (ha.run pn s sg Hh _ J h) fun v1 z1 ⟨x1, G1, J1, e1, p1⟩ => test_link ?_
  refine thn (hb.run pn z1 sg G1 _ J1 p1) fun v2 z2 ⟨x2, G2, J2, e2, p2⟩ => ?_
  refine thn (h1 pn z2 sg G2 x1 x2 v1 v2 _ J2 e1 e2 p2) fun v3 z3 ⟨y1, G3, J3, e3, k1, f1, p3⟩ => ?_
  subst f1
  cases e3
  refine wpAny_truthy_bool ?_
  cases k1 with
  | false => exact ite_ff ⟨G3, J3, p3⟩
  | true =>
    refine ite_tt (test_link ?_)
    refine thn (hc.run pn z3 sg G3 _ J3 p3) fun v4 z4 ⟨x3, G4, J4, e4, p4⟩ => ?_
    refine thn (h2 pn z4 sg G4 x2 x3 v2 v4 _ J4 e2 e4 p4) fun v5 z5 ⟨y2, G5, J5, e5, k2, f2, p5⟩ => ?_
    subst f2
    cases e5
    refine wpAny_truthy_bool ?_
    cases k2 with
    | false => exact ite_ff ⟨G5, J5, p5⟩
    | true =>
      refine ite_tt (test_last ?_)
      refine thn (hd.run pn z5 sg G5 _ J5 p5) fun v6 z6 ⟨x4, G6, J6, e6, p6⟩ => ?_
      refine thn (h3 pn z6 sg G6 x3 x4 v4 v6 _ J6 e4 e6 p6) fun v7 z7 ⟨y3, G7, J7, e7, k3, f3, p7⟩ => ?_
      subst f3
      cases e7
      exact wpAny_truthy_bool ⟨G7, J7, p7⟩
end
end Cc

/-! Many rounds: pairs of rounds are alike from the third on; the steps of all rounds one after another. -/
namespace Cc
open PySem PySem.Spec PyProof.Rows L2
theorem roundsF_plus (c : Int) (ss : List Stp) : ∀ (m n : Nat) (x : Int × Int), roundsF c ss (m + n) x = roundsF c ss n (roundsF c ss m x)
  | 0, n, x => by
    rw [Nat.zero_add]
    rfl
  | m + 1, n, x => by
    rw [Nat.succ_add]
    exact roundsF_plus c ss m n (stepsF c ss x)
theorem roundsF_sum (c : Int) (ss : List Stp) : ∀ (n : Nat) (r t : Int), roundsF c ss n (r, t) = ((roundsF c ss n (r, 0)).1, t + (roundsF c ss n (r, 0)).2)
  | 0, r, t => by
    show (r, t) = (r, t + 0)
    rw [Int.add_zero]
  | n + 1, r, t => by
    rw [roundsF_succ, roundsF_succ, roundsF_sum c ss n r t, stepsF_add c ss _ (t + _), stepsF_add c ss _ (roundsF c ss n (r, 0)).2]
    simp only [Prod.mk.injEq, true_and]
    omega
theorem pair_is (c : Int) (ss : List Stp) (x : Int × Int) : stepsF c (ss ++ ss) x = roundsF c ss 2 x := stepsF_app c ss ss x
theorem turnsF_pair (ss : List Stp) : turnsF (ss ++ ss) % 2 = 0 := by
  unfold turnsF
  rw [List.filter_append, List.length_append]
  omega
/-- a pair of rounds, done again, leaves the room as it is -/
theorem pair_twice {c x : Int} {ss : List Stp} (hs : ∀ s ∈ ss, s.ok c) (x0 : 0 ≤ x) (x1 : x ≤ c) : (stepsF c (ss ++ ss) ((stepsF c (ss ++ ss) (x, 0)).1, 0)).1 = (stepsF c (ss ++ ss) (x, 0)).1 := by
  have hp : ∀ s ∈ ss ++ ss, s.ok c := fun s h => (List.mem_append.mp h).elim (hs s) (hs s)
  obtain ⟨y0, y1, _⟩ := stepsF_in (t := 0) hp x0 x1 (Int.le_refl 0)
  obtain ⟨ok, _, e1⟩ := smSteps_says x0 x1 (ss ++ ss) hp
  obtain ⟨_, _, e2⟩ := smSteps_says y0 y1 (ss ++ ss) hp
  have ht : (smSteps c (ss ++ ss)).turned = false := by
    rw [turned_is, turnsF_pair]
    rfl
  rw [ht] at e1 e2
  generalize (stepsF c (ss ++ ss) ((stepsF c (ss ++ ss) (x, 0)).1, 0)).1 = z at *
  generalize (stepsF c (ss ++ ss) (x, 0)).1 = y at *
  generalize smSteps c (ss ++ ss) = m at *
  obtain ⟨low, high, extra, goal, turned⟩ := m
  have lh := ok.lh
  simp only at e1 e2 lh
  cases goal with
  | none =>
    simp [placeF, sideF, clampF] at e1 e2
    omega
  | some g =>
    simp [placeF, sideF] at e1 e2
    omega
/-- from a number that a pair leaves: p pairs -/
theorem pairs_all {c y : Int} {ss : List Stp} (h : (stepsF c (ss ++ ss) (y, 0)).1 = y) : ∀ p : Nat, roundsF c ss (2 * p) (y, 0) = (y, p * (stepsF c (ss ++ ss) (y, 0)).2)
  | 0 => by
    show (y, 0) = (y, ((0 : Nat) : Int) * _)
    simp
  | p + 1 => by
    have e : 2 * (p + 1) = 2 * p + 2 := by omega
    rw [e, roundsF_plus, pairs_all h p, ← pair_is, stepsF_add, h]
    simp only [Prod.mk.injEq, true_and]
    rw [Int.natCast_succ, Int.add_mul, Int.one_mul]
theorem rounds_fix {c r : Int} {ss : List Stp} (hs : ∀ s ∈ ss, s.ok c) (r0 : 0 ≤ r) (r1 : r ≤ c) (m : Nat) : (stepsF c (ss ++ ss) ((roundsF c ss (m + 2) (r, 0)).1, 0)).1 = (roundsF c ss (m + 2) (r, 0)).1 := by
  obtain ⟨a0, a1, _⟩ := roundsF_in (n := m) (t := 0) hs r0 r1 (Int.le_refl 0)
  have e : (roundsF c ss (m + 2) (r, 0)).1 = (stepsF c (ss ++ ss) ((roundsF c ss m (r, 0)).1, 0)).1 := by
    rw [roundsF_plus, pair_is, roundsF_sum c ss 2 (roundsF c ss m (r, 0)).1 (roundsF c ss m (r, 0)).2]
  rw [e]
  exact pair_twice hs a0 a1
/-- m + 2 rounds, then p pairs -/
theorem rounds_pairs {c r : Int} {ss : List Stp} (hs : ∀ s ∈ ss, s.ok c) (r0 : 0 ≤ r) (r1 : r ≤ c) (m p : Nat) :
    roundsF c ss (m + 2 + 2 * p) (r, 0) = ((roundsF c ss (m + 2) (r, 0)).1, (roundsF c ss (m + 2) (r, 0)).2 + p * (stepsF c (ss ++ ss) ((roundsF c ss (m + 2) (r, 0)).1, 0)).2) := by
  rw [roundsF_plus c ss (m + 2), roundsF_sum c ss (2 * p) (roundsF c ss (m + 2) (r, 0)).1 (roundsF c ss (m + 2) (r, 0)).2, pairs_all (rounds_fix hs r0 r1 m)]
theorem afterF_is {c r : Int} {ss : List Stp} (hs : ∀ s ∈ ss, s.ok c) (r0 : 0 ≤ r) (r1 : r ≤ c) (n : Nat) : afterF c ss r n = roundsF c ss n (r, 0) := rfl
/-- the code's own way: two or three rounds singly, the rest in pairs all alike -/
theorem few_is {c r : Int} {ss : List Stp} (hs : ∀ s ∈ ss, s.ok c) (r0 : 0 ≤ r) (r1 : r ≤ c) {n : Nat} (h : 2 ≤ n) :
    afterF c ss r n = ((stepsF c (ss ++ ss) ((roundsF c ss (2 + n % 2) (r, 0)).1, 0)).1, (roundsF c ss (2 + n % 2) (r, 0)).2 + ((n - (2 + n % 2)) / 2 : Nat) * (stepsF c (ss ++ ss) ((roundsF c ss (2 + n % 2) (r, 0)).1, 0)).2) := by
  have e : n = n % 2 + 2 + 2 * ((n - (2 + n % 2)) / 2) := by omega
  have h1 := rounds_pairs hs r0 r1 (n % 2) ((n - (2 + n % 2)) / 2)
  rw [← e] at h1
  unfold afterF
  rw [h1, Nat.add_comm 2 (n % 2), rounds_fix hs r0 r1]
/-- two parts of the rounds -/
theorem rounds_parts (c : Int) (ss : List Stp) (r : Int) (m n : Nat) : (roundsF c ss (m + n) (r, 0)).1 = (roundsF c ss n ((roundsF c ss m (r, 0)).1, 0)).1 ∧ (roundsF c ss (m + n) (r, 0)).2 = (roundsF c ss m (r, 0)).2 + (roundsF c ss n ((roundsF c ss m (r, 0)).1, 0)).2 := by
  rw [roundsF_plus, roundsF_sum c ss n (roundsF c ss m (r, 0)).1 (roundsF c ss m (r, 0)).2]
  exact ⟨rfl, rfl⟩
/-- each further pair carries what the third and the fourth round carry -/
theorem rounds_even {c r : Int} {ss : List Stp} (hs : ∀ s ∈ ss, s.ok c) (r0 : 0 ≤ r) (r1 : r ≤ c) (p : Nat) :
    (roundsF c ss (2 * p + 2) (r, 0)).2 = (roundsF c ss 2 (r, 0)).2 + p * ((roundsF c ss 4 (r, 0)).2 - (roundsF c ss 2 (r, 0)).2) := by
  have e : 2 * p + 2 = 0 + 2 + 2 * p := by omega
  have h1 := rounds_pairs hs r0 r1 0 p
  have h2 := rounds_pairs hs r0 r1 0 1
  simp only [Nat.zero_add] at h1 h2
  rw [e, Nat.zero_add, h1, show 4 = 2 + 2 * 1 from rfl, h2]
  simp only
  congr 1
  rw [Int.natCast_one, Int.one_mul, Int.add_comm (roundsF c ss 2 (r, 0)).2, Int.add_sub_cancel]
/-! ### the steps of all rounds -/
def cycF (ss : List Stp) (k n : Nat) : List Stp := (List.range n).map fun i => ss.getD ((k + i) % ss.length) .turn
theorem cycF_succ (ss : List Stp) (k n : Nat) : cycF ss k (n + 1) = cycF ss k n ++ [ss.getD ((k + n) % ss.length) .turn] := by
  unfold cycF
  rw [List.range_succ, List.map_append]
  rfl
theorem cycF_len (ss : List Stp) (k n : Nat) : (cycF ss k n).length = n := by
  unfold cycF
  simp only [List.length_range, List.length_map]
theorem getD_in {ss : List Stp} {i : Nat} (h : i < ss.length) : ss.getD i .turn = ss[i] := by simp [List.getD, h]
theorem getD_out {ss : List Stp} {i : Nat} (h : ss.length ≤ i) : ss.getD i .turn = .turn := by simp [List.getD, h]
theorem cycF_ok {c : Int} {ss : List Stp} (hs : ∀ s ∈ ss, s.ok c) (k n : Nat) : ∀ s ∈ cycF ss k n, s.ok c := fun s h => by
  obtain ⟨i, _, rfl⟩ := List.mem_map.mp h
  by_cases q : (k + i) % ss.length < ss.length
  · rw [getD_in q]
    exact hs _ (List.getElem_mem q)
  · rw [getD_out (by omega)]
    trivial
theorem rep_get {ss : List Stp} : ∀ (k i : Nat), i < k * ss.length → (List.replicate k ss).flatten[i]? = some (ss.getD (i % ss.length) .turn)
  | 0, i, h => by omega
  | k + 1, i, h => by
    rw [List.replicate_succ (n := k), List.flatten_cons]
    by_cases q : i < ss.length
    · rw [List.getElem?_append_left q, Nat.mod_eq_of_lt q, List.getElem?_eq_getElem q, getD_in q]
    · have h1 : (k + 1) * ss.length = k * ss.length + ss.length := Nat.succ_mul k ss.length
      rw [List.getElem?_append_right (by omega), rep_get k (i - ss.length) (by omega)]
      congr 2
      rw [Nat.mod_eq_sub_mod (by omega : i ≥ ss.length)]
theorem rep_take {ss : List Stp} {k n : Nat} (h : n ≤ k * ss.length) : ((List.replicate k ss).flatten).take n = cycF ss 0 n := by
  refine List.ext_getElem? fun i => ?_
  by_cases q : i < n
  · rw [List.getElem?_take_of_lt q, rep_get k i (by omega)]
    unfold cycF
    rw [List.getElem?_map, List.getElem?_range q]
    show _ = some (ss.getD ((0 + i) % ss.length) .turn)
    rw [Nat.zero_add]
  · rw [List.getElem?_eq_none (by rw [List.length_take]; omega), List.getElem?_eq_none (by rw [cycF_len]; omega)]
theorem Steps.rep {H : Hp} {vs : List V} {ss : List Stp} (h : Steps H vs ss) : ∀ k : Nat, Steps H (List.replicate k vs).flatten (List.replicate k ss).flatten
  | 0 => .nil
  | k + 1 => by
    simp only [List.replicate_succ, List.flatten_cons]
    exact h.append (Steps.rep h k)
theorem eqv_selfs (ns : List Int) : PyData.eqv (.list (ns.map PyData.int)) (.list (ns.map PyData.int)) = true := by
  have q : ∀ ns : List Int, PyData.eqvAll (ns.map PyData.int) (ns.map PyData.int) = true := fun ns => by
    induction ns with
    | nil => simp [PyData.eqvAll]
    | cons a ns ih => simp [PyData.eqvAll, PyData.eqv, ih]
  simp [PyData.eqv, q ns]
end Cc

/-! The steps of all rounds, cut; two meetings for all chairs. -/
namespace Cc
open PySem PySem.Spec PyProof.Rows L2
theorem cycF_cons (ss : List Stp) (k n : Nat) : cycF ss k (n + 1) = ss.getD (k % ss.length) .turn :: cycF ss (k + 1) n := by
  unfold cycF
  rw [List.range_succ_eq_map, List.map_cons, List.map_map]; refine congrArg _ (List.map_congr_left fun i _ => ?_)
  show ss.getD ((k + (i + 1)) % ss.length) .turn = ss.getD ((k + 1 + i) % ss.length) .turn
  rw [show k + (i + 1) = k + 1 + i by omega]
theorem cycF_app (ss : List Stp) : ∀ (n k m : Nat), cycF ss k (n + m) = cycF ss k n ++ cycF ss (k + n) m
  | 0, k, m => by
    rw [Nat.zero_add]
    rfl
  | n + 1, k, m => by
    rw [show n + 1 + m = (n + m) + 1 by omega, cycF_cons, cycF_cons, cycF_app ss n (k + 1) m, List.cons_append, show k + 1 + n = k + (n + 1) by omega]
theorem cycF_mod (ss : List Stp) (k m : Nat) : cycF ss (k % ss.length) m = cycF ss k m := by
  unfold cycF
  refine List.map_congr_left fun i _ => ?_; rw [Nat.mod_add_mod]
theorem carryF_app (c : Int) : ∀ (a b : List Stp) (r : Int), carryF c (a ++ b) r = carryF c a r ++ carryF c b (stepsF c a (r, 0)).1
  | [], _, _ => rfl
  | s :: a, b, r => by
    show (stepF c s r).2 :: carryF c (a ++ b) (stepF c s r).1 = (stepF c s r).2 :: (carryF c a (stepF c s r).1 ++ carryF c b (stepsF c a ((stepF c s r).1, 0 + (stepF c s r).2)).1)
    rw [carryF_app c a b, stepsF_fst c a (stepF c s r).1 (0 + (stepF c s r).2) 0]
theorem flat_rounds (c : Int) (ss : List Stp) : ∀ (n : Nat) (y : Int × Int), stepsF c (List.replicate n ss).flatten y = roundsF c ss n y
  | 0, _ => rfl
  | n + 1, y => by
    rw [List.replicate_succ, List.flatten_cons, stepsF_app, flat_rounds c ss n]
    rfl
theorem flat_len (ss : List Stp) (n : Nat) : (List.replicate n ss).flatten.length = n * ss.length := by
  rw [List.length_flatten, List.map_replicate, List.sum_replicate_nat]
theorem flat_cyc (ss : List Stp) (n : Nat) : (List.replicate n ss).flatten = cycF ss 0 (n * ss.length) := by
  rw [← rep_take (ss := ss) (k := n) (n := n * ss.length) (Nat.le_refl _), List.take_of_length_le (Nat.le_of_eq (flat_len ss n))]
/-- where the red room stands behind k steps -/
theorem reach_is {c x : Int} {ss : List Stp} (hs : ∀ s ∈ ss, s.ok c) (hne : ss ≠ []) (x0 : 0 ≤ x) (x1 : x ≤ c) (k : Nat) :
    (stepsF c (ss.take (k % ss.length)) ((afterF c ss x (k / ss.length)).1, 0)).1 = (stepsF c (cycF ss 0 k) (x, 0)).1 := by
  have pos : 0 < ss.length := List.length_pos_iff.mpr hne
  have lt : k % ss.length < ss.length := Nat.mod_lt _ pos
  have e : k = k / ss.length * ss.length + k % ss.length := (Nat.div_add_mod' k ss.length).symm
  have h1 : cycF ss 0 k = (List.replicate (k / ss.length) ss).flatten ++ ss.take (k % ss.length) := by
    have h2 : cycF ss (k / ss.length * ss.length) (k % ss.length) = ss.take (k % ss.length) := by
      rw [← cycF_mod, Nat.mul_mod_left, ← rep_take (ss := ss) (k := 1) (by omega)]
      simp
    calc cycF ss 0 k = cycF ss 0 (k / ss.length * ss.length + k % ss.length) := congrArg _ e
      _ = _ := by rw [cycF_app, Nat.zero_add, h2, ← flat_cyc]
  rw [h1, stepsF_app, flat_rounds, afterF_is hs x0 x1]
  exact stepsF_fst c _ _ _ _
/-- some of what all rounds carry -/
theorem carried_cut {c x : Int} {ss : List Stp} (hs : ∀ s ∈ ss, s.ok c) (hne : ss ≠ []) (x0 : 0 ≤ x) (x1 : x ≤ c) {n k m : Nat} (h : k + m ≤ n * ss.length) :
    ((carryF c (List.replicate n ss).flatten x).drop k).take m = carryF c (cycF ss (k % ss.length) m) (stepsF c (ss.take (k % ss.length)) ((afterF c ss x (k / ss.length)).1, 0)).1 := by
  rw [reach_is hs hne x0 x1, cycF_mod, flat_cyc, show n * ss.length = k + (m + (n * ss.length - (k + m))) by omega, cycF_app, cycF_app, carryF_app, carryF_app, Nat.zero_add]
  rw [List.drop_append_of_le_length (by rw [carryF_len, cycF_len]; omega), List.drop_of_length_le (by rw [carryF_len, cycF_len]; omega), List.nil_append, List.take_append_of_le_length (by rw [carryF_len, cycF_len]; omega), List.take_of_length_le (by rw [carryF_len, cycF_len]; omega)]
/-! ### two meetings for all chairs -/
def altN (n : Int) : List Stp := [.meet true n, .meet false n]
theorem altN_get (n : Int) (k : Nat) : (altN n).getD (k % (altN n).length) .turn = if k % 2 = 0 then .meet true n else .meet false n := by
  show (altN n).getD (k % 2) .turn = _
  rcases Nat.mod_two_eq_zero_or_one k with h | h <;> rw [h] <;> rfl
theorem alt_carry {n : Int} (n0 : 0 ≤ n) : ∀ (m k : Nat) (r : Int), r = (if k % 2 = 0 then 0 else n) → carryF n (cycF (altN n) k m) r = List.replicate m n
  | 0, _, _, _ => rfl
  | m + 1, k, r, h => by
    rw [cycF_cons, altN_get]
    by_cases q : k % 2 = 0
    · rw [if_pos q] at h ⊢
      subst h
      have e : stepF n (.meet true n) 0 = (n, n) := by
        simp only [stepF, mx_eq, Prod.mk.injEq]
        omega
      show (stepF n (.meet true n) 0).2 :: carryF n (cycF (altN n) (k + 1) m) (stepF n (.meet true n) 0).1 = _
      rw [e, alt_carry n0 m (k + 1) n (by rw [if_neg (by omega)]), List.replicate_succ]
    · rw [if_neg q] at h ⊢
      subst h
      have e : stepF r (.meet false r) r = (0, r) := by
        simp only [stepF, mx_eq, Prod.mk.injEq]
        omega
      show (stepF r (.meet false r) r).2 :: carryF r (cycF (altN r) (k + 1) m) (stepF r (.meet false r) r).1 = _
      rw [e, alt_carry n0 m (k + 1) 0 (by rw [if_pos (by omega)]), List.replicate_succ]
theorem alt_step {n : Int} (n0 : 0 ≤ n) : ∀ (k : Nat), (stepsF n (cycF (altN n) 0 k) (0, 0)).1 = if k % 2 = 0 then 0 else n
  | 0 => rfl
  | k + 1 => by
    rw [cycF_succ, stepsF_one, alt_step n0 k, Nat.zero_add, altN_get]
    by_cases q : k % 2 = 0
    · rw [if_pos q, if_pos q, if_neg (by omega)]
      simp only [stepF, mx_eq]
      omega
    · rw [if_neg q, if_neg q, if_pos (by omega)]
      simp only [stepF, mx_eq]
      omega
theorem alt_ok {n : Int} (n0 : 0 ≤ n) : ∀ s ∈ altN n, s.ok n := fun s h => by
  rcases List.mem_cons.mp h with rfl | h2
  · exact ⟨n0, Int.le_refl n⟩
  · rw [List.mem_singleton.mp h2]
    exact ⟨n0, Int.le_refl n⟩
/-- all steps of such a plan carry all chairs -/
theorem alt_outs {n : Int} (n0 : 0 ≤ n) (k m : Nat) : carryF n (cycF (altN n) (k % (altN n).length) m) (stepsF n ((altN n).take (k % (altN n).length)) ((afterF n (altN n) 0 (k / (altN n).length)).1, 0)).1 = List.replicate m n := by
  rw [reach_is (alt_ok n0) (fun z => nomatch z) (Int.le_refl 0) n0, cycF_mod, alt_step n0]
  exact alt_carry n0 m k _ rfl
theorem ints_cut (ns : List Int) {a b : Nat} (h : b ≤ ns.length) : cutV (ns.map V.int) (some (a : Int)) (some (b : Int)) = (((ns.drop a).take (b - a)).map V.int) := by
  unfold cutV
  rw [HT.sIx_nat, HT.sIx_nat, List.length_map, Nat.min_eq_left h, List.map_take, List.map_drop]
  by_cases q : a ≤ ns.length
  · rw [Nat.min_eq_left q]
  · rw [Nat.min_eq_right (by omega), List.drop_of_length_le (by rw [List.length_map]; omega), List.drop_of_length_le (by rw [List.length_map]; omega)]
    simp
theorem rep_ints (n : Int) : ∀ k : Nat, (List.replicate k [V.int n]).flatten = (List.replicate k n).map V.int
  | 0 => rfl
  | k + 1 => by
    rw [List.replicate_succ, List.flatten_cons, rep_ints n k, List.replicate_succ]
    rfl
end Cc

/-! tuple * int, the number from 0 on. -/
namespace Cc
open PySem PySem.Spec PyProof.Rows L2
theorem tup_mul_self (l : Addr) (items : Array Value) (n : Nat) (dd : Option Addr) (sl : Array (Option Value)) (x : Int) (u : Tok) (c0 : (decide (x < -(2 ^ 63)) || decide (x ≥ 2 ^ 63)) = false) (c1 : (items.isEmpty || x == 1) = true) :
    Meets (Builtin.«tuple.__mul__» ⟨[.ref l, .int x u], []⟩) (fun _ R s => s.heap.get? l = some { cls := .type "tuple", dict := dd, data := .seq items n, slots := sl } ∧ R (.ok (.ret (.ref l))) s) := .of_wp fun prog w A R s h => by
    obtain ⟨hp, g, d, tk, os⟩ := s; obtain ⟨hl, h⟩ := h; have f1 := AutoSeq1.idx_int
    have ht : Shared.TypeIs ⟨hp, g, d, tk, os⟩ (.ref l) "tuple" := ⟨_, hl, rfl⟩
    (wp_walk using wpAny_loadPart' hl)
    repeat (first
      | ((refine wpAny_ite_false (decide_eq_false (by rw [c0]; exact Bool.false_ne_true)) ?_; wp_walk using wpAny_loadPart' hl))
      | (refine wpAny_ite_true (decide_eq_true c1) ?_; wp_walk using wpAny_loadPart' hl))
    exact ⟨_, rfl, h⟩
theorem tup_mul_none (l : Addr) (items : Array Value) (n : Nat) (dd : Option Addr) (sl : Array (Option Value)) (x : Int) (u : Tok) (c0 : (decide (x < -(2 ^ 63)) || decide (x ≥ 2 ^ 63)) = false) (c1 : (items.isEmpty || x == 1) = false) (c2 : (decide (x ≤ 0) || items.isEmpty) = true) : Meets (Builtin.«tuple.__mul__» ⟨[.ref l, .int x u], []⟩) (fun _ R s => s.heap.get? l = some { cls := .type "tuple", dict := dd, data := .seq items n, slots := sl } ∧
      R (.ok (.ret (Value.ref s.heap.objs.size))) { s with heap := s.heap.push { cls := Value.type "tuple", data := Data.seq #[] }, toks := s.toks }) := .of_wp fun prog w A R s h => by
    obtain ⟨hp, g, d, tk, os⟩ := s; obtain ⟨hl, h⟩ := h; have f1 := AutoSeq1.idx_int
    have ht : Shared.TypeIs ⟨hp, g, d, tk, os⟩ (.ref l) "tuple" := ⟨_, hl, rfl⟩
    (wp_walk using wpAny_loadPart' hl)
    repeat (first
      | (refine wpAny_ite_false (decide_eq_false (by rw [c0]; exact Bool.false_ne_true)) ?_; wp_walk using wpAny_loadPart' hl) | (refine wpAny_ite_false (decide_eq_false (by rw [c1]; exact Bool.false_ne_true)) ?_; wp_walk using wpAny_loadPart' hl)
      | (refine wpAny_ite_true (decide_eq_true c2) ?_; wp_walk using wpAny_loadPart' hl))
    exact ⟨_, rfl, h⟩
/-- t * k, k from 0 on: the same object, or a new one -/
def rRepG (K : PySem.W.Frag) : R2 := fun x y H Q => ∃ l k xs, x = .ref l ∧ y = .int k ∧ SqT K H l xs ∧ 0 ≤ k ∧ k ≤ 1000 ∧ xs.length ≤ 1000 ∧
  ((List.replicate k.toNat xs).flatten = xs → Q (.ref l) H) ∧ ∀ p, H p = none → Q (.ref p) (upd H p (.tup (List.replicate k.toNat xs).flatten))
theorem flat_none {α : Type} : ∀ n : Nat, (List.replicate n ([] : List α)).flatten = []
  | 0 => rfl
  | n + 1 => by
    rw [List.replicate_succ, List.flatten_cons, flat_none n]
    rfl
section
variable {X : Cx}
theorem op_repG : OpR X (binaryOp .Mult) (rRepG X.K) := by
  intro pins s σ H x y v u Q I rx ry h; obtain ⟨l, k, xs, rfl, rfl, hT, h0, h1, hz, q1, q2⟩ := h
  by_cases big : xs ≠ [] ∧ 2 ≤ k
  · exact op_repT pins s σ H _ _ v u Q I rx ry ⟨l, k, xs, rfl, rfl, hT, big.1, big.2, h1, hz, q2⟩
  · cases rx
    obtain ⟨t, rfl⟩ := ry
    obtain ⟨its, r, ⟨⟨cls, dd, data, sl⟩, ho, hc, n, hd⟩, hs⟩ := I.tuple hT; simp only at hc hd
    subst hc hd
    have hle : its.length = xs.length := r.length.symm; have c0 : (decide (k < -(2 ^ 63)) || decide (k ≥ 2 ^ 63)) = false := by
      (rw [decide_eq_false (by omega), decide_eq_false (by omega)] <;> rfl)
    by_cases sm : xs = [] ∨ k = 1
    · have c1 : (its.toArray.isEmpty || k == 1) = true := by
        rcases sm with e | e
        · subst e
          have : its = [] := List.eq_nil_of_length_eq_zero hle
          subst this
          rfl
        · subst e
          simp
      have ef : (List.replicate k.toNat xs).flatten = xs := by
        rcases sm with e | e
        · subst e
          exact flat_none _
        · subst e
          simp
      refine wpAny_binaryOp_repeat_ref (T := "tuple") (U := "int") (by decide) ⟨_, ho, rfl⟩ (fun s' => typeIs_int s' k t) noFill_tuple_mul F.fills_int_mul F.slot_int_rmul repeat_tuple F.slot_int_index.lookup (call_meets F.slot_int_rmul (typeIs_int s k t) F.entry_int_rmul (F.args_int_rmul_2 _ _) (int_rmul_tuple k t l its.toArray n dd sl)
          ⟨ho, rfl, ⟨_, ho, rfl⟩, call_meets F.slot_tuple_mul ⟨_, ho, rfl⟩ F.entry_tuple_mul (F.args_tuple_mul_2 _ _) (tup_mul_self l its.toArray n dd sl k t c0 c1) ⟨ho, ?_⟩⟩)
      exact ⟨.ref l, _, I, rfl, q1 ef⟩
    · have hne : xs ≠ [] := fun e => sm (.inl e)
      have k0 : k = 0 := by
        have : k ≠ 1 := fun e => sm (.inr e)
        have : ¬ 2 ≤ k := fun e => big ⟨hne, e⟩
        omega
      subst k0; have hn : its ≠ [] := fun e => hne (by
        rw [e] at hle; exact List.eq_nil_of_length_eq_zero hle.symm)
      have hi : (its.toArray.isEmpty = false) := by
        cases its with
        | nil => exact absurd rfl hn
        | cons a b => rfl
      have c1 : (its.toArray.isEmpty || (0 : Int) == 1) = false := by rw [hi]; rfl
      refine wpAny_binaryOp_repeat_ref (T := "tuple") (U := "int") (by decide) ⟨_, ho, rfl⟩ (fun s' => typeIs_int s' 0 t) noFill_tuple_mul F.fills_int_mul F.slot_int_rmul repeat_tuple F.slot_int_index.lookup
        (call_meets F.slot_int_rmul (typeIs_int s 0 t) F.entry_int_rmul (F.args_int_rmul_2 _ _) (int_rmul_tuple 0 t l its.toArray n dd sl)
          ⟨ho, rfl, ⟨_, ho, rfl⟩, call_meets F.slot_tuple_mul ⟨_, ho, rfl⟩ F.entry_tuple_mul (F.args_tuple_mul_2 _ _) (tup_mul_none l its.toArray n dd sl 0 t c0 c1 rfl) ⟨ho, ?_⟩⟩)
      refine ⟨.ref s.heap.objs.size, _, I.laid (t' := s.toks) (o := .tup []) (fun b ob q => Heap.get?_push_of_some _ q) (Nat.le_refl _) ?_, rfl, q2 _ (I.hok.fresh (Nat.le_refl _))⟩
      exact ⟨Nat.zero_le _, _, .nil, IsTup.new _ _⟩
end
/-- step == TURN -/
def isT : Stp → Bool
  | .turn => true
  | .meet _ _ => false
def rTurn (K : PySem.W.Frag) : R2 := fun x y Hh Qz => ∃ t st p, x = .ref t ∧ Hh t = some (.tup (stpV st)) ∧ y = .ref p ∧ SqT K Hh p [.str "turn"] ∧ Qz (.bl (isT st)) Hh
theorem op_eqTurn {X : Cx} (hu : X.A.units + 64 < cLine) : OpR X (compareOp .Eq) (rTurn X.K) := by
  intro pins s σ H x y v u Q I rx ry h; obtain ⟨t, st, p, rfl, ht, rfl, hp, q⟩ := h
  refine op_eqD hu pins s σ H _ _ v u Q I rx ry ?_
  cases st with
  | turn =>
    refine ⟨.tuple [.str "turn"], .tuple [.str "turn"], .tup (SqT.of ht) (.cons (.str _) .nil), .tup hp (.cons (.str _) .nil), by decide +kernel, by decide +kernel, ?_⟩
    rw [eqv_turn]
    exact q
  | meet b n =>
    refine ⟨.tuple [.str (roomS b), .int n], .tuple [.str "turn"], .tup (SqT.of ht) (.cons (.str _) (.cons (.int _) .nil)), .tup hp (.cons (.str _) .nil), shaped_meet b n, by decide +kernel, ?_⟩
    rw [eqv_meet]
    exact q
end Cc

namespace Cc
open PySem PySem.Spec PyProof.Rows L2
/-- few_rounds -/
def fewF (n : Int) : Int := if n < 2 then n else 2 + n % 2
def spFew : Sp := fun vs H Q _ => ∃ (n : Int), vs = [.int n] ∧ Q (.int (fewF n)) H
def spARounds (C : Addr) : Sp := fun vs H Q _ => ∃ (p : Addr) (ss : List Stp) (c r n : Int), vs = [.ref p, .int c, .int r, .int n] ∧ PlanAt C H p ss ∧ ss.length ≤ 60 ∧ (∀ s ∈ ss, s.ok c) ∧ 0 ≤ r ∧ r ≤ c ∧ 0 ≤ n ∧ n ≤ 1000000000000000000 ∧
  ∀ q H', Same H H' → H' q = some (.tup [.int (afterF c ss r n.toNat).1, .int (afterF c ss r n.toNat).2]) → Q (.ref q) H'
/-- the steps of a plan, read -/
theorem PlanAt.tup {K : PySem.W.Frag} {C : Addr} {H : Hp} {p : Addr} {ss : List Stp} (h : PlanAt C H p ss) : ∃ dx tp ws, H p = some (.ins C dx [("step_tuple", .ref tp)]) ∧ SqT K H tp ws ∧ (∀ H', Same H H' → SqT K H' tp ws) ∧ Steps H ws ss :=
  let ⟨dx, tp, ws, a, b, d⟩ := h
  ⟨dx, tp, ws, a, b.sq, fun H' s => (b.same s).sq, d⟩
/-- steps again and again -/
theorem rep_steps {K : PySem.W.Frag} {H : Hp} {tp : Addr} {ws : List V} {ss : List Stp} {n : Int} {Q : VK} (h : SqT K H tp ws) (hk : ∀ H', Same H H' → SqT K H' tp ws) (hs : Steps H ws ss) (n0 : 0 ≤ n) (n1 : n ≤ 1000) (hl : ss.length ≤ 1000)
    (k : ∀ q us H', Same H H' → SqT K H' q us → (∀ H2, Same H' H2 → SqT K H2 q us) → Steps H' us (List.replicate n.toNat ss).flatten → Q (.ref q) H') : rRepG K (.ref tp) (.int n) H Q :=
  ⟨tp, n, ws, rfl, rfl, h, n0, n1, by rw [hs.length]; exact hl, fun e => k tp ws H (Same.refl H) h hk (by have z := hs.rep n.toNat; rw [e] at z; exact z),
    fun p hp => k p _ _ (same_upd hp) (SqT.of upd_same) (fun H2 s2 => SqT.of (s2 _ _ upd_same)) ((hs.rep n.toNat).same (same_upd hp))⟩
section
variable {P : Program} {w : World} {K : PySem.W.Frag} {mg : Str → Option Value} {base : Heap} {C TU pS gS : Addr} {mc : Value}
abbrev s_few_rounds : Stmt := top 19
abbrev n_few_rounds : List Str := ["rounds"]
theorem sc_few_rounds : FnScope n_few_rounds ["rounds"] (defScope s_few_rounds) := ⟨rfl, rfl, rfl, by decide +kernel, rfl, by decide +kernel, by decide +kernel⟩
theorem ok_few_rounds {f : Addr} {fd : FuncData} (F : Fun K "few_rounds" "few_rounds" s_few_rounds f fd)  : FnOk P w K mg base CX0 1 f fd ["rounds"] spFew := by
  refine F.ok sc_few_rounds (fun vs H Q E h => ?_) (fun cdv A outer s H vs Q E hr h => ?_)
  · obtain ⟨n, rfl, _⟩ := h
    rfl
  · obtain ⟨n, rfl, k⟩ := h
    refine ⟨_, pss_one (ps_ret (pe_ifExp (pt_cmpR op_lt (pv 0) pe_int (nomark _)) (pv 0) (pe_op op_add pe_int (pe_op op_mod (pv 0) pe_int)))), ?_⟩
    refine ⟨_, rfl, _, _, rfl, rfl, _, rfl, ?_⟩
    unfold fewF at k
    by_cases q : n < 2
    · rw [if_pos q] at k
      exact ifT (decide_eq_true q) ⟨_, rfl, k⟩
    · rw [if_neg q] at k
      exact ifF (decide_eq_false q) ⟨_, rfl, _, _, rfl, rfl, (by show (0 : Int) < 2; decide), _, _, rfl, rfl, k⟩
abbrev s_after_rounds : Stmt := top 18
abbrev n_after_rounds : List Str := ["plan", "chairs", "red", "rounds", "few", "total", "carried"]
theorem sc_after_rounds : FnScope n_after_rounds ["plan", "chairs", "red", "rounds"] (defScope s_after_rounds) := ⟨rfl, rfl, rfl, by decide +kernel, rfl, by decide +kernel, by decide +kernel⟩
theorem ok_after_rounds {f f_few_rounds f_after_steps : Addr} {fd fdS : FuncData} (F : Fun K "after_rounds" "after_rounds" s_after_rounds f fd) (T : Txt K mg C TU pS gS mc) (G : Gs P w K mg base C gS fdS) (D_few_rounds : Dn P w K mg base 1 "few_rounds" f_few_rounds spFew) (D_after_steps : Dn P w K mg base 2 "after_steps" f_after_steps (spASteps K)) : FnOk P w K mg base CX0 3 f fd ["plan", "chairs", "red", "rounds"] (spARounds C) := by
  refine F.ok sc_after_rounds (fun vs H Q E h => ?_) (fun cdv A outer s H vs Q E hr h => ?_)
  · obtain ⟨p, ss, c, r, n, rfl, _⟩ := h
    rfl
  · obtain ⟨p, ss, c, r, n, rfl, hp, hl, hs, r0, r1, h0, h1, k⟩ := h
    refine ⟨_, pss_cons (ps_set (i := 4) sc_after_rounds.nd rfl (.inl rfl) (pe_callR D_few_rounds.ok (hr.mono (by decide)) rfl D_few_rounds.at_ D_few_rounds.kp pass0 (pa_cons (pv 3) pa_nil)))
      (pss_cons (ps_asg (pe_callR D_after_steps.ok (hr.mono (by decide)) rfl D_after_steps.at_ D_after_steps.kp pass0 (pa_cons (pe_op op_repG (pe_prop (pv 0) T.cl T.pr G.ok (hr.mono (by decide)) G.b .nil pass0 rfl) (pv 4)) (pa_cons (pv 1) (pa_cons (pv 2) pa_nil)))) (pg_tup rfl (pgs_cons (pg_name (i := 2) sc_after_rounds.nd rfl (.inl rfl)) (pgs_cons (pg_name (i := 5) sc_after_rounds.nd rfl (.inl rfl)) pgs_nil))))
      (pss_cons (ps_if (pt_cmpR op_lt (pv 4) (pv 3) (nomark _))
        (pss_cons (ps_asg (pe_callR D_after_steps.ok (hr.mono (by decide)) rfl D_after_steps.at_ D_after_steps.kp pass0 (pa_cons (pe_op op_repG (pe_prop (pv 0) T.cl T.pr G.ok (hr.mono (by decide)) G.b .nil pass0 rfl) pe_int) (pa_cons (pv 1) (pa_cons (pv 2) pa_nil)))) (pg_tup rfl (pgs_cons (pg_name (i := 2) sc_after_rounds.nd rfl (.inl rfl)) (pgs_cons (pg_name (i := 6) sc_after_rounds.nd rfl (.inl rfl)) pgs_nil))))
        (pss_one (ps_aug (i := 5) sc_after_rounds.nd rfl (.inl rfl) (pe_op op_mul (pe_op op_fdiv (pe_op op_sub (pv 3) (pv 4)) pe_int) (pv 6)) ip_add))) pss_nil)
      (pss_one (ps_ret (pe_tup (pa_cons (pv 2) (pa_cons (pv 5) pa_nil))))))), ?_⟩
    refine ⟨_, rfl, n, rfl, ?_⟩
    obtain ⟨m, hm⟩ : ∃ m : Nat, n = (m : Int) := ⟨n.toNat, by omega⟩
    obtain ⟨fw, hfw⟩ : ∃ fw : Nat, fewF n = (fw : Int) := ⟨(fewF n).toNat, by unfold fewF; split <;> omega⟩
    have hfm : fw = if m < 2 then m else 2 + m % 2 := by
      unfold fewF at hfw
      split at hfw <;> split <;> omega
    rw [hfw]
    have fw3 : fw ≤ 3 := by split at hfm <;> omega
    obtain ⟨dx, tp, ws, e1, e2, e3, e4⟩ := hp.tup (K := K)
    refine ⟨_, rfl, p, dx, _, rfl, e1, p, dx, _, _, rfl, e1, lk_self, _, rfl, rep_steps e2 e3 e4 (by omega) (by omega) (by omega) fun q us H1 s1 g1 g2 g3 => ?_⟩
    rw [Int.toNat_natCast] at g3
    refine ⟨_, rfl, _, rfl, q, us, _, c, r, rfl, g1, g2, g3, fun t H2 s2 g4 => ?_⟩
    rw [flat_rounds] at g4
    have s02 := s1.trans s2
    refine ⟨t, _, rfl, SqT.of g4, rfl, _, _, rfl, _, _, rfl, rfl, ?_⟩
    refine ⟨_, rfl, _, rfl, _, _, rfl, rfl, _, rfl, ?_⟩
    rw [hm, Int.toNat_natCast] at k
    by_cases c2 : 2 ≤ m ∧ fw < m
    · refine ifT (decide_eq_true (by omega)) ?_
      have hk := few_is hs r0 r1 (n := m) c2.1
      rw [if_neg (by omega)] at hfm
      rw [← hfm] at hk
      obtain ⟨dx, tp, ws, e1, e2, e3, e4⟩ := (hp.same s02).tup (K := K)
      refine ⟨_, rfl, p, dx, _, rfl, e1, p, dx, _, _, rfl, e1, lk_self, ?_⟩
      dsimp only [tC]
      refine rep_steps e2 e3 e4 (by omega) (by omega) (by omega) fun q us H3 s3 g1 g2 g3 => ?_
      have e5 : (List.replicate (2 : Int).toNat ss).flatten = ss ++ ss := by
        show ss ++ (ss ++ []) = ss ++ ss
        rw [List.append_nil]
      rw [e5] at g3
      refine ⟨_, rfl, _, rfl, q, us, _, c, _, rfl, g1, g2, g3, fun t H4 s4 g5 => ?_⟩
      refine ⟨t, _, rfl, SqT.of g5, rfl, _, _, rfl, _, _, rfl, rfl, ?_⟩
      refine ⟨_, rfl, _, rfl, _, rfl, _, _, rfl, rfl, _, _, rfl, rfl, ⟨by decide, by decide⟩, _, rfl, _, _, rfl, rfl, .inl ⟨by omega, by omega⟩, _, _, rfl, rfl, ?_⟩
      refine ⟨_, rfl, _, rfl, by show 2 ≤ sizeLine; decide, fun z hz => ?_⟩
      refine k z _ ((s02.trans (s3.trans s4)).trans (same_upd hz)) ?_
      have e6 : ((m : Int) - (fw : Int)) / 2 = (((m - fw) / 2 : Nat) : Int) := by omega
      rw [hk, hm, e6]
      exact upd_same
    · have e6 : m = fw := by
        split at hfm <;> omega
      refine ifF (decide_eq_false (by omega)) ?_
      refine ⟨_, rfl, _, rfl, by show 2 ≤ sizeLine; decide, fun z hz => ?_⟩
      refine k z _ (s02.trans (same_upd hz)) ?_
      unfold afterF
      rw [e6]
      exact upd_same
end
end Cc

namespace Cc
open PySem PySem.Spec PyProof.Rows L2
def spChkStart (C : Addr) : Sp := fun vs H Q _ => ∃ (p : Addr) (c r : Int) (ss : List Stp), vs = [.ref p, .int c, .int r] ∧ PlanAt C H p ss ∧ 0 ≤ c ∧ c ≤ 1000000000000000000 ∧ (∀ s ∈ ss, s.ok c) ∧ ss.length ≤ 60 ∧ 0 ≤ r ∧ r ≤ c ∧ ∀ H', Same H H' → Q .non H'
def spChkRounds (C : Addr) : Sp := fun vs H Q _ => ∃ (p : Addr) (ss : List Stp) (c r n : Int), vs = [.ref p, .int c, .int r, .int n] ∧ PlanAt C H p ss ∧ ss.length ≤ 60 ∧ (∀ s ∈ ss, s.ok c) ∧ 0 ≤ c ∧ c ≤ 1000000000000000000 ∧ 0 ≤ r ∧ r ≤ c ∧ 0 ≤ n ∧ n ≤ 1000000000000000000 ∧
  ∀ q H', Same H H' → H' q = some (.tup [.int (afterF c ss r n.toNat).1, .int (afterF c ss r n.toNat).2]) → Q (.ref q) H'
def spTotal (C : Addr) : Sp := fun vs H Q _ => ∃ (p : Addr) (ss : List Stp) (c r n : Int), vs = [.ref p, .int c, .int r, .int n] ∧ PlanAt C H p ss ∧ ss.length ≤ 60 ∧ (∀ s ∈ ss, s.ok c) ∧ 0 ≤ c ∧ c ≤ 1000000000000000000 ∧ 0 ≤ r ∧ r ≤ c ∧ 0 ≤ n ∧ n ≤ 1000000000000000000 ∧
  ∀ H', Same H H' → Q (.int (afterF c ss r n.toNat).2) H'
def spRedC (C : Addr) : Sp := fun vs H Q _ => ∃ (p : Addr) (ss : List Stp) (c r n : Int), vs = [.ref p, .int c, .int r, .int n] ∧ PlanAt C H p ss ∧ ss.length ≤ 60 ∧ (∀ s ∈ ss, s.ok c) ∧ 0 ≤ c ∧ c ≤ 1000000000000000000 ∧ 0 ≤ r ∧ r ≤ c ∧ 0 ≤ n ∧ n ≤ 1000000000000000000 ∧
  ∀ H', Same H H' → Q (.int (afterF c ss r n.toNat).1) H'
section
variable {P : Program} {w : World} {K : PySem.W.Frag} {mg : Str → Option Value} {base : Heap} {C TU pS gS : Addr} {mc : Value}
abbrev s_check_start : Stmt := top 10
abbrev n_check_start : List Str := ["plan", "chairs", "start"]
theorem sc_check_start : FnScope n_check_start ["plan", "chairs", "start"] (defScope s_check_start) := ⟨rfl, rfl, rfl, by decide +kernel, rfl, by decide +kernel, by decide +kernel⟩
theorem ok_check_start {f f_check_house f_check_number : Addr} {fd : FuncData} (F : Fun K "check_start" "check_start" s_check_start f fd) (D_check_house : Dn P w K mg base 3 "check_house" f_check_house (spChkHouse C)) (D_check_number : Dn P w K mg base 2 "check_number" f_check_number spChkNum) : FnOk P w K mg base CX0 4 f fd ["plan", "chairs", "start"] (spChkStart C) := by
  refine F.ok sc_check_start (fun vs H Q E h => ?_) (fun cdv A outer s H vs Q E hr h => ?_)
  · obtain ⟨p, c, r, ss, rfl, _⟩ := h
    rfl
  · obtain ⟨p, c, r, ss, rfl, hp, c0, c1, hs, hl, r0, r1, k⟩ := h
    refine ⟨_, pss_cons (ps_expr (pe_callR D_check_house.ok (hr.mono (by decide)) rfl D_check_house.at_ D_check_house.kp pass0 (pa_cons (pv 0) (pa_cons (pv 1) pa_nil))))
      (pss_one (ps_expr (pe_callR D_check_number.ok (hr.mono (by decide)) rfl D_check_number.at_ D_check_number.kp pass0 (pa_cons (pv 2) (pa_cons pe_int (pa_cons (pv 1) pa_nil)))))), ?_⟩
    exact ⟨_, rfl, _, rfl, p, c, ss, rfl, hp, c0, c1, hs, hl, fun H1 s1 => ⟨_, rfl, _, rfl, r, 0, c, rfl, r0, r1, k H1 s1⟩⟩
abbrev s_checked_rounds : Stmt := top 29
abbrev n_checked_rounds : List Str := ["plan", "chairs", "start", "rounds"]
theorem sc_checked_rounds : FnScope n_checked_rounds ["plan", "chairs", "start", "rounds"] (defScope s_checked_rounds) := ⟨rfl, rfl, rfl, by decide +kernel, rfl, by decide +kernel, by decide +kernel⟩
theorem ok_checked_rounds {f f_check_start f_check_number f_after_rounds : Addr} {fd : FuncData} (F : Fun K "checked_rounds" "checked_rounds" s_checked_rounds f fd) (g_MAX_ROUNDS : ∃ u, mg "MAX_ROUNDS" = some u ∧ RelV (.int 1000000000000000000) u) (D_check_start : Dn P w K mg base 4 "check_start" f_check_start (spChkStart C)) (D_check_number : Dn P w K mg base 2 "check_number" f_check_number spChkNum) (D_after_rounds : Dn P w K mg base 3 "after_rounds" f_after_rounds (spARounds C)) : FnOk P w K mg base CX0 5 f fd ["plan", "chairs", "start", "rounds"] (spChkRounds C) := by
  refine F.ok sc_checked_rounds (fun vs H Q E h => ?_) (fun cdv A outer s H vs Q E hr h => ?_)
  · obtain ⟨p, ss, c, r, n, rfl, _⟩ := h
    rfl
  · obtain ⟨p, ss, c, r, n, rfl, hp, hl, hs, c0, c1, r0, r1, n0, n1, k⟩ := h
    obtain ⟨u_MAX_ROUNDS, m_MAX_ROUNDS, r_MAX_ROUNDS⟩ := g_MAX_ROUNDS
    refine ⟨_, pss_cons (ps_expr (pe_callR D_check_start.ok (hr.mono (by decide)) rfl D_check_start.at_ D_check_start.kp pass0 (pa_cons (pv 0) (pa_cons (pv 1) (pa_cons (pv 2) pa_nil)))))
      (pss_cons (ps_expr (pe_callR D_check_number.ok (hr.mono (by decide)) rfl D_check_number.at_ D_check_number.kp pass0 (pa_cons (pv 3) (pa_cons pe_int (pa_cons (pe_glob rfl m_MAX_ROUNDS r_MAX_ROUNDS) pa_nil)))))
      (pss_one (ps_ret (pe_callR D_after_rounds.ok (hr.mono (by decide)) rfl D_after_rounds.at_ D_after_rounds.kp pass0 (pa_cons (pv 0) (pa_cons (pv 1) (pa_cons (pv 2) (pa_cons (pv 3) pa_nil)))))))), ?_⟩
    refine ⟨_, rfl, _, rfl, _, rfl, p, c, r, ss, rfl, hp, c0, c1, hs, hl, r0, r1, fun H1 s1 => ?_⟩
    refine ⟨_, rfl, n, 0, _, rfl, n0, n1, ?_⟩
    exact ⟨_, rfl, _, rfl, _, rfl, _, rfl, p, ss, c, r, n, rfl, hp.same s1, hl, hs, r0, r1, n0, n1, fun q H2 s2 e2 => k q H2 (s1.trans s2) e2⟩
abbrev s_total_carried : Stmt := top 27
abbrev n_total_carried : List Str := ["plan", "chairs", "start", "rounds"]
theorem sc_total_carried : FnScope n_total_carried ["plan", "chairs", "start", "rounds"] (defScope s_total_carried) := ⟨rfl, rfl, rfl, by decide +kernel, rfl, by decide +kernel, by decide +kernel⟩
theorem ok_total_carried {f f_checked_rounds : Addr} {fd : FuncData} (F : Fun K "total_carried" "total_carried" s_total_carried f fd) (D_checked_rounds : Dn P w K mg base 5 "checked_rounds" f_checked_rounds (spChkRounds C)) : FnOk P w K mg base CX0 6 f fd ["plan", "chairs", "start", "rounds"] (spTotal C) := by
  refine F.ok sc_total_carried (fun vs H Q E h => ?_) (fun cdv A outer s H vs Q E hr h => ?_)
  · obtain ⟨p, ss, c, r, n, rfl, _⟩ := h
    rfl
  · obtain ⟨p, ss, c, r, n, rfl, hp, hl, hs, c0, c1, r0, r1, n0, n1, k⟩ := h
    refine ⟨_, pss_one (ps_ret (pe_ix ix_tup (pe_callR D_checked_rounds.ok (hr.mono (by decide)) rfl D_checked_rounds.at_ D_checked_rounds.kp pass0 (pa_cons (pv 0) (pa_cons (pv 1) (pa_cons (pv 2) (pa_cons (pv 3) pa_nil))))) pe_int (fun _ _ => rfl))), ?_⟩
    refine ⟨_, rfl, _, rfl, _, rfl, _, rfl, p, ss, c, r, n, rfl, hp, hl, hs, c0, c1, r0, r1, n0, n1, fun q H1 s1 e1 => ?_⟩
    exact ⟨q, _, 1, _, rfl, rfl, SqT.of e1, at_of (j := 1) rfl rfl, k H1 s1⟩
abbrev s_red_chairs : Stmt := top 28
abbrev n_red_chairs : List Str := ["plan", "chairs", "start", "rounds"]
theorem sc_red_chairs : FnScope n_red_chairs ["plan", "chairs", "start", "rounds"] (defScope s_red_chairs) := ⟨rfl, rfl, rfl, by decide +kernel, rfl, by decide +kernel, by decide +kernel⟩
theorem ok_red_chairs {f f_checked_rounds : Addr} {fd : FuncData} (F : Fun K "red_chairs" "red_chairs" s_red_chairs f fd) (D_checked_rounds : Dn P w K mg base 5 "checked_rounds" f_checked_rounds (spChkRounds C)) : FnOk P w K mg base CX0 6 f fd ["plan", "chairs", "start", "rounds"] (spRedC C) := by
  refine F.ok sc_red_chairs (fun vs H Q E h => ?_) (fun cdv A outer s H vs Q E hr h => ?_)
  · obtain ⟨p, ss, c, r, n, rfl, _⟩ := h
    rfl
  · obtain ⟨p, ss, c, r, n, rfl, hp, hl, hs, c0, c1, r0, r1, n0, n1, k⟩ := h
    refine ⟨_, pss_one (ps_ret (pe_ix ix_tup (pe_callR D_checked_rounds.ok (hr.mono (by decide)) rfl D_checked_rounds.at_ D_checked_rounds.kp pass0 (pa_cons (pv 0) (pa_cons (pv 1) (pa_cons (pv 2) (pa_cons (pv 3) pa_nil))))) pe_int (fun _ _ => rfl))), ?_⟩
    refine ⟨_, rfl, _, rfl, _, rfl, _, rfl, p, ss, c, r, n, rfl, hp, hl, hs, c0, c1, r0, r1, n0, n1, fun q H1 s1 e1 => ?_⟩
    exact ⟨q, _, 0, _, rfl, rfl, SqT.of e1, at_of (j := 0) rfl rfl, k H1 s1⟩
end
end Cc

namespace Cc
open PySem PySem.Spec PyProof.Rows L2
abbrev sEffect : Stmt := top 31
abbrev sAllow : Stmt := top 32
abbrev sNarrow : Stmt := top 33
abbrev sNear : Stmt := top 34
def smV (m : Sm) : List V := [.int m.low, .int m.high, .int m.extra, goalV m.goal, .bl m.turned]
def spAllow : Sp := fun vs H Q _ => ∃ (v : V) (b t : Bool) (c n : Int), vs = [v, .int c, .bl t] ∧ StepAt H v (.meet b n) ∧ ∀ p H', Same H H' → H' p = some (.tup [.int (allowF c t b n).1, .int (allowF c t b n).2]) → Q (.ref p) H'
def spNarrow : Sp := fun vs H Q _ => ∃ (lo hi a b : Int), vs = [.int lo, .int hi, .int a, .int b] ∧ ∀ p H', Same H H' → H' p = some (.tup [.int (narrowF lo hi a b).1, .int (narrowF lo hi a b).2.1, .int (narrowF lo hi a b).2.2.1, goalV (narrowF lo hi a b).2.2.2]) → Q (.ref p) H'
def spNear : Sp := fun vs H Q _ => ∃ (g a b : Int), vs = [.int g, .int a, .int b] ∧ Q (.int (nearF g a b)) H
def spEffect (K : PySem.W.Frag) : Sp := fun vs H Q _ => ∃ (t : Addr) (ws : List V) (ss : List Stp) (c : Int), vs = [.ref t, .int c] ∧ SqT K H t ws ∧ (∀ H', Same H H' → SqT K H' t ws) ∧ Steps H ws ss ∧ ∀ q H', Same H H' → H' q = some (.tup (smV (smEnd (smSteps c ss)))) → Q (.ref q) H'
section
variable {P : Program} {w : World} {K : PySem.W.Frag} {mg : Str → Option Value} {base : Heap} {C TU pS gS : Addr} {mc : Value}
theorem scAllow : FnScope ["step", "chairs", "turned", "room", "need"] ["step", "chairs", "turned"] (defScope sAllow) := ⟨rfl, rfl, rfl, by decide +kernel, rfl, by decide +kernel, by decide +kernel⟩
theorem bl_eq (a t : Bool) : decide (V.bl a = V.bl t) = (a == t) := by
  cases a <;> cases t <;> decide
theorem ok_allow {f : Addr} {fd : FuncData} (F : Fun K "allowed_range" "allowed_range" sAllow f fd) : FnOk P w K mg base CX0 1 f fd ["step", "chairs", "turned"] spAllow := by
  refine F.ok scAllow (fun vs H Q E h => ?_) (fun cdv A outer s H vs Q E hr h => ?_)
  · obtain ⟨v, b, t, c, n, rfl, _⟩ := h
    rfl
  · obtain ⟨v, b, tt, c, n, rfl, ⟨t, rfl, ht⟩, k⟩ := h
    refine ⟨_, pss_cons (ps_asg (pv 0) (pg_tup rfl (pgs_cons (pg_name (i := 3) scAllow.nd rfl (.inl rfl)) (pgs_cons (pg_name (i := 4) scAllow.nd rfl (.inl rfl)) pgs_nil))))
      (pss_cons (ps_if (pt_cmpR op_eq (pe_cmpR op_eq (pv 3) pe_str (nomark _)) (pv 2) (nomark _)) (pss_one (ps_ret (pe_tup (pa_cons pe_int (pa_cons (pe_op op_sub (pv 1) (pv 4)) pa_nil))))) pss_nil)
      (pss_one (ps_ret (pe_tup (pa_cons (pv 4) (pa_cons (pv 1) pa_nil)))))), ?_⟩
    refine ⟨_, rfl, t, _, rfl, SqT.of ht, rfl, _, _, rfl, _, _, rfl, rfl, ?_⟩
    refine ⟨_, rfl, rfl, _, rfl, rfl, _, rfl, ?_⟩
    have e : decide (V.bl (decide (V.str (roomS b) = V.str "red")) = V.bl tt) = (b == tt) := by rw [room_eq, bl_eq]
    cases hb : (b == tt) with
    | true =>
      have ea : allowF c tt b n = (0, c - n) := by
        unfold allowF
        rw [if_pos hb]
      refine ifT (e.trans hb) ⟨_, rfl, _, rfl, _, _, rfl, rfl, by show 2 ≤ sizeLine; decide, fun p hp => k p _ (same_upd hp) ?_⟩
      rw [ea]
      exact upd_same
    | false =>
      have ea : allowF c tt b n = (n, c) := by
        unfold allowF
        simp [hb]
      refine ifF (e.trans hb) ⟨_, rfl, _, rfl, by show 2 ≤ sizeLine; decide, fun p hp => k p _ (same_upd hp) ?_⟩
      rw [ea]
      exact upd_same
theorem scNarrow : FnScope ["low", "high", "least", "most"] ["low", "high", "least", "most"] (defScope sNarrow) := ⟨rfl, rfl, rfl, by decide +kernel, rfl, by decide +kernel, by decide +kernel⟩
theorem ok_narrow {f : Addr} {fd : FuncData} (F : Fun K "narrowed" "narrowed" sNarrow f fd) (B : Bt mg) : FnOk P w K mg base CX0 1 f fd ["low", "high", "least", "most"] spNarrow := by
  refine F.ok scNarrow (fun vs H Q E h => ?_) (fun cdv A outer s H vs Q E hr h => ?_)
  · obtain ⟨lo, hi, a, b, rfl, _⟩ := h
    rfl
  · obtain ⟨lo, hi, a, b, rfl, k⟩ := h
    refine ⟨_, pss_cons (ps_if (pt_cmpR op_gt (pv 2) (pv 1) (nomark _)) (pss_one (ps_ret (pe_tup (pa_cons (pv 1) (pa_cons (pv 1) (pa_cons (pe_op op_sub (pv 2) (pv 1)) (pa_cons (pv 2) pa_nil))))))) pss_nil)
      (pss_cons (ps_if (pt_cmpR op_lt (pv 3) (pv 0) (nomark _)) (pss_one (ps_ret (pe_tup (pa_cons (pv 0) (pa_cons (pv 0) (pa_cons (pe_op op_sub (pv 0) (pv 3)) (pa_cons (pv 3) pa_nil))))))) pss_nil)
      (pss_one (ps_ret (pe_tup (pa_cons (pe_callB (call_max2 rfl) (by rfl) B.max (by decide +kernel) (pa_cons (pv 0) (pa_cons (pv 2) pa_nil))) (pa_cons (pe_callB (call_min2 rfl) (by rfl) B.min (by decide +kernel) (pa_cons (pv 1) (pa_cons (pv 3) pa_nil))) (pa_cons pe_int (pa_cons pe_non pa_nil)))))))), ?_⟩
    refine ⟨_, rfl, _, rfl, _, _, rfl, rfl, _, rfl, ?_⟩
    by_cases q1 : hi < a
    · refine ifT (decide_eq_true q1) ⟨_, rfl, _, rfl, _, rfl, _, rfl, _, _, rfl, rfl, _, rfl, by show 4 ≤ sizeLine; decide, fun p hp => k p _ (same_upd hp) ?_⟩
      rw [show narrowF lo hi a b = (hi, hi, a - hi, some a) by unfold narrowF; rw [if_pos q1]]
      exact upd_same
    · refine ifF (decide_eq_false q1) ⟨_, rfl, _, rfl, _, _, rfl, rfl, _, rfl, ?_⟩
      by_cases q2 : b < lo
      · refine ifT (decide_eq_true q2) ⟨_, rfl, _, rfl, _, rfl, _, rfl, _, _, rfl, rfl, _, rfl, by show 4 ≤ sizeLine; decide, fun p hp => k p _ (same_upd hp) ?_⟩
        rw [show narrowF lo hi a b = (lo, lo, lo - b, some b) by unfold narrowF; rw [if_neg q1, if_pos q2]]
        exact upd_same
      · refine ifF (decide_eq_false q2) ⟨_, rfl, _, rfl, _, _, rfl, _, rfl, _, rfl, _, _, rfl, by show 4 ≤ sizeLine; decide, fun p hp => k p _ (same_upd hp) ?_⟩
        rw [show narrowF lo hi a b = (mx lo a, (if b < hi then b else hi), 0, none) by unfold narrowF; rw [if_neg q1, if_neg q2]]
        exact upd_same
theorem scNear : FnScope ["number", "least", "most"] ["number", "least", "most"] (defScope sNear) := ⟨rfl, rfl, rfl, by decide +kernel, rfl, by decide +kernel, by decide +kernel⟩
theorem ok_near {f : Addr} {fd : FuncData} (F : Fun K "nearest" "nearest" sNear f fd) (B : Bt mg) : FnOk P w K mg base CX0 1 f fd ["number", "least", "most"] spNear := by
  refine F.ok scNear (fun vs H Q E h => ?_) (fun cdv A outer s H vs Q E hr h => ?_)
  · obtain ⟨g, a, b, rfl, _⟩ := h
    rfl
  · obtain ⟨g, a, b, rfl, k⟩ := h
    refine ⟨_, pss_one (ps_ret (pe_callB (call_min2 rfl) (by rfl) B.min (by decide +kernel) (pa_cons (pe_callB (call_max2 rfl) (by rfl) B.max (by decide +kernel) (pa_cons (pv 0) (pa_cons (pv 1) pa_nil))) (pa_cons (pv 2) pa_nil)))), ?_⟩
    exact ⟨_, rfl, _, rfl, _, _, rfl, _, rfl, _, _, rfl, k⟩
abbrev nEffect : List Str := ["steps", "chairs", "low", "high", "extra", "goal", "turned", "step", "least", "most", "moved"]
theorem scEffect : FnScope nEffect ["steps", "chairs"] (defScope sEffect) := ⟨rfl, rfl, rfl, by decide +kernel, rfl, by decide +kernel, by decide +kernel⟩
theorem ok_effect {f f2 f3 f4 : Addr} {fd : FuncData} (F : Fun K "effect_of" "effect_of" sEffect f fd) (T : Txt K mg C TU pS gS mc) (DA : Dn P w K mg base 1 "allowed_range" f2 spAllow)
    (DN : Dn P w K mg base 1 "narrowed" f3 spNarrow) (DE : Dn P w K mg base 1 "nearest" f4 spNear) : FnOk P w K mg base CX0 2 f fd ["steps", "chairs"] (spEffect K) := by
  refine F.ok scEffect (fun vs H Q E h => ?_) (fun cdv A outer s H vs Q E hr h => ?_)
  · obtain ⟨p, ws, ss, c, rfl, _⟩ := h
    rfl
  · obtain ⟨p, ws, ss, c, rfl, hT, hT2, e3, k⟩ := h
    have r1 : Room 1 _ := hr
    refine ⟨_, pss_cons (ps_asg (pe_tup (pa_cons pe_int (pa_cons (pv 1) (pa_cons pe_int (pa_cons pe_non (pa_cons pe_bl pa_nil)))))) (pg_tup rfl (pgs_cons (pg_name (i := 2) scEffect.nd rfl (.inl rfl)) (pgs_cons (pg_name (i := 3) scEffect.nd rfl (.inl rfl)) (pgs_cons (pg_name (i := 4) scEffect.nd rfl (.inl rfl)) (pgs_cons (pg_name (i := 5) scEffect.nd rfl (.inl rfl)) (pgs_cons (pg_name (i := 6) scEffect.nd rfl (.inl rfl)) pgs_nil)))))))
      (pss_cons (ps_for PassesOwn.never rfl (pi_tup (pv 0)) (pg_name (i := 7) scEffect.nd rfl (.inl rfl))
        (pss_cons (ps_if (pt_cmpR (op_eqD hr.units) (pv 7) (pe_glob (v := .ref TU) rfl T.gT rfl) (nomark _)) (pss_cons (ps_set (i := 6) scEffect.nd rfl (.inl rfl) (pe_not (pv 6))) (pss_one ps_continue)) pss_nil)
        (pss_cons (ps_asg (pe_callR DA.ok r1 rfl DA.at_ DA.kp pass0 (pa_cons (pv 7) (pa_cons (pv 1) (pa_cons (pv 6) pa_nil)))) (pg_tup rfl (pgs_cons (pg_name (i := 8) scEffect.nd rfl (.inl rfl)) (pgs_cons (pg_name (i := 9) scEffect.nd rfl (.inl rfl)) pgs_nil))))
        (pss_one (ps_if (pt_cmpR op_isN (pv 5) pe_non (nomark _))
          (pss_one (ps_asg (pe_callR DN.ok r1 rfl DN.at_ DN.kp pass0 (pa_cons (pv 2) (pa_cons (pv 3) (pa_cons (pv 8) (pa_cons (pv 9) pa_nil))))) (pg_tup rfl (pgs_cons (pg_name (i := 2) scEffect.nd rfl (.inl rfl)) (pgs_cons (pg_name (i := 3) scEffect.nd rfl (.inl rfl)) (pgs_cons (pg_name (i := 4) scEffect.nd rfl (.inl rfl)) (pgs_cons (pg_name (i := 5) scEffect.nd rfl (.inl rfl)) pgs_nil)))))))
          (pss_cons (ps_set (i := 10) scEffect.nd rfl (.inl rfl) (pe_callR DE.ok r1 rfl DE.at_ DE.kp pass0 (pa_cons (pv 5) (pa_cons (pv 8) (pa_cons (pv 9) pa_nil)))))
          (pss_cons (ps_aug (i := 4) scEffect.nd rfl (.inl rfl) (pe_callB call_abs (by rfl) T.b.abs (by decide +kernel) (pa_cons (pe_op op_sub (pv 10) (pv 5)) pa_nil)) ip_add)
          (pss_one (ps_set (i := 5) scEffect.nd rfl (.inl rfl) (pv 10))))))))))
      (pss_cons (ps_if (PW.pt (pw_and (pt_cmpR op_eq (pv 2) (pv 3) (nomark _)) (pw_and1 (pt_cmpR op_isN (pv 5) pe_non (nomark _))))) (pss_one (ps_set (i := 5) scEffect.nd rfl (.inl rfl) (pv 2))) pss_nil)
      (pss_one (ps_ret (pe_tup (pa_cons (pv 2) (pa_cons (pv 3) (pa_cons (pv 4) (pa_cons (pv 5) (pa_cons (pv 6) pa_nil)))))))))), ?_⟩
    refine ⟨_, rfl, by show 5 ≤ sizeLine; decide, fun t5 ht5 => ?_⟩
    have s2 := same_upd (o := .tup [.int 0, .int c, .int 0, .non, .bl false]) ht5
    refine ⟨t5, _, rfl, SqT.of upd_same, rfl, _, _, rfl, _, _, rfl, _, _, rfl, _, _, rfl, _, _, rfl, rfl, ?_⟩
    refine ⟨_, rfl, p, rfl, ⟨_, hT2 _ s2⟩, for_tup (K := K) (a := p) (xs := ws) (fun i σ H' => ∃ (x7 x8 x9 x10 : Option V), σ = [some (.ref p), some (.int c), some (.int (smSteps c (ss.take i)).low), some (.int (smSteps c (ss.take i)).high), some (.int (smSteps c (ss.take i)).extra), some (goalV (smSteps c (ss.take i)).goal), some (.bl (smSteps c (ss.take i)).turned), x7, x8, x9, x10] ∧ Same (upd H t5 (.tup [.int 0, .int c, .int 0, .non, .bl false])) H')
      ⟨none, none, none, none, rfl, Same.refl _⟩ (fun i σ H' _ ⟨_, _, _, _, _, s3⟩ => hT2 _ (s2.trans s3)) ?_ ?_⟩
    · rintro i v σ H2 hi ⟨x7, x8, x9, x10, rfl, s3⟩
      obtain ⟨st, hst, t, rfl, ht0⟩ := e3.get hi
      have ht := s3 _ _ (s2 _ _ ht0)
      have em : smSteps c (ss.take (i + 1)) = smStep c (smSteps c (ss.take i)) st := by rw [take_more hst, smSteps_more]
      generalize smSteps c (ss.take i) = m at *
      obtain ⟨low, high, extra, goal, turned⟩ := m
      cases st with
      | turn =>
        refine ⟨_, rfl, .tuple [.str "turn"], .tuple [.str "turn"], .tup (SqT.of ht) (.cons (.str _) .nil), .tup (T.tT _) (.cons (.str _) .nil), by decide +kernel, by decide +kernel, _, rfl, ?_⟩
        refine ifT eqv_turn ⟨_, rfl, _, rfl, ?_⟩
        refine ⟨some (.ref t), x8, x9, x10, ?_, s3⟩
        rw [em]
        rfl
      | meet bb n =>
        refine ⟨_, rfl, .tuple [.str (roomS bb), .int n], .tuple [.str "turn"], .tup (SqT.of ht) (.cons (.str _) (.cons (.int _) .nil)), .tup (T.tT _) (.cons (.str _) .nil), shaped_meet bb n, by decide +kernel, _, rfl, ?_⟩
        refine ifF (eqv_meet bb n) ⟨_, rfl, _, rfl, _, rfl, _, bb, turned, c, n, rfl, ⟨t, rfl, ht⟩, fun q H3 s4 hq => ?_⟩
        refine ⟨q, _, rfl, SqT.of hq, rfl, _, _, rfl, _, _, rfl, rfl, ?_⟩
        cases goal with
        | none =>
          refine ⟨_, rfl, rfl, _, rfl, ?_⟩
          refine ifT (decide_eq_true rfl) ⟨_, rfl, _, rfl, _, rfl, _, rfl, low, high, _, _, rfl, fun q2 H4 s5 hq2 => ?_⟩
          refine ⟨q2, _, rfl, SqT.of hq2, rfl, _, _, rfl, _, _, rfl, _, _, rfl, _, _, rfl, rfl, ?_⟩
          refine ⟨some (.ref t), some (.int (allowF c turned bb n).1), some (.int (allowF c turned bb n).2), x10, ?_, (s3.trans s4).trans s5⟩
          rw [em]
          rfl
        | some z =>
          refine ⟨_, rfl, rfl, _, rfl, ?_⟩
          refine ifF (by simp [goalV]) ⟨_, rfl, _, rfl, _, rfl, z, _, _, rfl, ?_⟩
          refine ⟨_, rfl, _, rfl, _, rfl, _, _, rfl, rfl, _, rfl, _, _, rfl, rfl, _, rfl, ?_⟩
          refine ⟨some (.ref t), some (.int (allowF c turned bb n).1), some (.int (allowF c turned bb n).2), some (.int (nearF z (allowF c turned bb n).1 (allowF c turned bb n).2)), ?_, s3.trans s4⟩
          rw [em]
          rfl
    · rintro σ H2 ⟨x7, x8, x9, x10, rfl, s3⟩
      rw [e3.length, List.take_length]
      generalize smSteps c ss = m at *
      obtain ⟨low, high, extra, goal, turned⟩ := m
      have fin : ∀ g : Option Int, smEnd ⟨low, high, extra, goal, turned⟩ = ⟨low, high, extra, g, turned⟩ → ∀ q, H2 q = none → Q (.ref q) (upd H2 q (.tup [.int low, .int high, .int extra, goalV g, .bl turned])) := fun g hg q hq => by
        refine k q _ ((s2.trans s3).trans (same_upd hq)) ?_
        rw [hg]
        exact upd_same
      refine ⟨_, rfl, _, rfl, rfl, _, rfl, ?_⟩
      by_cases q1 : low = high
      · refine ifT (by rw [q1]; exact decide_eq_true rfl) ⟨_, rfl, rfl, _, rfl, ?_⟩
        cases goal with
        | none =>
          refine ifT (decide_eq_true rfl) ⟨_, rfl, _, rfl, _, rfl, _, rfl, _, rfl, _, rfl, by show 5 ≤ sizeLine; decide, fun q hq => ?_⟩
          exact fin (some low) (by unfold smEnd; rw [if_pos ⟨q1, rfl⟩]) q hq
        | some z =>
          refine ifF (by simp [goalV]) ⟨_, rfl, _, rfl, _, rfl, _, rfl, _, rfl, by show 5 ≤ sizeLine; decide, fun q hq => ?_⟩
          exact fin (some z) (by unfold smEnd; rw [if_neg (fun h => nomatch h.2)]) q hq
      · refine ifF (decide_eq_false fun h => q1 (by injection h)) ?_
        refine iteF ⟨_, rfl, _, rfl, _, rfl, _, rfl, _, rfl, by show 5 ≤ sizeLine; decide, fun q hq => ?_⟩
        exact fin goal (by unfold smEnd; rw [if_neg (fun h => q1 h.1)]) q hq
end
end Cc

namespace Cc
open PySem PySem.Spec PyProof.Rows L2
def spSummary (C : Addr) : Sp := fun vs H Q _ => ∃ (p : Addr) (ss : List Stp) (c : Int), vs = [.ref p, .int c] ∧ PlanAt C H p ss ∧ 0 ≤ c ∧ c ≤ 1000000000000000000 ∧ (∀ s ∈ ss, s.ok c) ∧ ss.length ≤ 60 ∧ ∀ q H', Same H H' → H' q = some (.tup (smV (smEnd (smSteps c ss)))) → Q (.ref q) H'
section
variable {P : Program} {w : World} {K : PySem.W.Frag} {mg : Str → Option Value} {base : Heap} {C TU pS gS : Addr} {mc : Value}
abbrev s_summary : Stmt := top 30
abbrev n_summary : List Str := ["plan", "chairs"]
theorem sc_summary : FnScope n_summary ["plan", "chairs"] (defScope s_summary) := ⟨rfl, rfl, rfl, by decide +kernel, rfl, by decide +kernel, by decide +kernel⟩
theorem ok_summary {f f_check_house f_effect_of : Addr} {fd fdS : FuncData} (F : Fun K "summary" "summary" s_summary f fd) (T : Txt K mg C TU pS gS mc) (G : Gs P w K mg base C gS fdS) (D_check_house : Dn P w K mg base 3 "check_house" f_check_house (spChkHouse C)) (D_effect_of : Dn P w K mg base 2 "effect_of" f_effect_of (spEffect K)) : FnOk P w K mg base CX0 4 f fd ["plan", "chairs"] (spSummary C) := by
  refine F.ok sc_summary (fun vs H Q E h => ?_) (fun cdv A outer s H vs Q E hr h => ?_)
  · obtain ⟨p, ss, c, rfl, _⟩ := h
    rfl
  · obtain ⟨p, ss, c, rfl, hp, h0, h1, ho, hn, k⟩ := h
    refine ⟨_, pss_cons (ps_expr (pe_callR D_check_house.ok (hr.mono (by decide)) rfl D_check_house.at_ D_check_house.kp pass0 (pa_cons (pv 0) (pa_cons (pv 1) pa_nil))))
      (pss_one (ps_ret (pe_callR D_effect_of.ok (hr.mono (by decide)) rfl D_effect_of.at_ D_effect_of.kp pass0 (pa_cons (pe_prop (pv 0) T.cl T.pr G.ok (hr.mono (by decide)) G.b .nil pass0 rfl) (pa_cons (pv 1) pa_nil))))), ?_⟩
    refine ⟨_, rfl, _, rfl, p, c, ss, rfl, hp, h0, h1, ho, hn, fun H1 s1 => ?_⟩
    obtain ⟨dx, tp, ws, e1, e2, e3⟩ := hp.same s1
    exact ⟨_, rfl, p, dx, _, rfl, e1, p, dx, _, _, rfl, e1, lk_self, _, rfl, tp, ws, ss, c, rfl, e2.sq, (fun H' s' => (e2.same s').sq), e3, fun q H2 s2 e => k q H2 (s1.trans s2) e⟩
end
end Cc

/-! A rule of our own: a set of ints by two clauses, {e for a in xs for b in ys if t}. -/
namespace Cc
open PySem PySem.Spec PyProof.Rows L2
/-- the comprehension: the first clause has no test -/
abbrev scE (el ta ia tb ib : Expr) (fb : List Expr) (sc : Scope) (ps : Pos) : Expr := .SetComp el [⟨ta, ia, [], 0⟩, ⟨tb, ib, fb, 0⟩] sc ps
section
variable {pr : Program} {ww : World} {A : Around} {R : Result → Shared → Prop} {st : Shared} {el ta ia tb ib : Expr} {fb : List Expr} {sc : Scope} {ps : Pos} {it ac : Value} {en : Env}
theorem noX {α : Type} {M : Model} {t : Sem α} {G : α → Shared → Prop} {E : Value → Shared → Prop} (h : wpAny M A t G (fun _ _ => False) st) : wpAny M A t G E st := wpAny_mono h (fun _ _ q => q) fun _ _ q => q.elim
theorem sc_outer (hf : ∀ x, foldedSetIterable ib en x = pure x) (J : Nat → Shared → Prop)
    (go : ∀ n z, J n z → wpAny (model pr ww) A (pyNext it) (fun r z1 => match r with
      | none => R (.ok .next) z1
      | some v => wpAny (model pr ww) A (letOwnedTupleGo ta it v) (fun _ z2 => wpAny (model pr ww) A (assign ta en v) (fun _ z3 => wpAny (model pr ww) A (eval ib en) (fun x z4 => wpAny (model pr ww) A (pyIter x) (fun i2 z5 =>
          codeAny (model pr ww) A (.compStart (scE el ta ia tb ib fb sc ps) 1 i2 ac en) (fun r z6 => match r with | .ok _ => ∃ m, m < n ∧ J m z6 | .error _ => False) z5)
          (fun _ _ => False) z4) (fun _ _ => False) z3) (fun _ _ => False) z2) (fun _ _ => False) z1) (fun _ _ => False) z) (n : Nat) (h : J n st) :
    codeAny (model pr ww) A (.compLoop (scE el ta ia tb ib fb sc ps) 0 it ac en) R st := by
  refine codeAny_loop rfl J (fun n z hz => ?_) n h
  show wpAny _ A ((compTurn (scE el ta ia tb ib fb sc ps) 0 it ac en).onRaise (fun x => do noteFrame x en; theTreesLotGoes x)) _ _ z
  refine wpAny_noted ?_
  have tree : compTurn (scE el ta ia tb ib fb sc ps) 0 it ac en = (do
      standAt ia.pos
      match ← pyNext it with
      | none => pure (.done .next)
      | some v =>
        letOwnedTupleGo ta it v
        assign ta en v
        let mut good := true
        for c in ([] : List Expr) do
          if good then good ← isTrue c en (eval c en)
        if good then
          let x ← eval ib en
          standAt ib.pos
          let x ← foldedSetIterable ib en x
          let _ ← runOwn (.compStart (scE el ta ia tb ib fb sc ps) 1 (← holding [x] (pyIter x)) ac en) en
        again (.compLoop (scE el ta ia tb ib fb sc ps) 0 it ac en)) := by rfl
  rw [tree]
  refine wpAny_bind (wpAny_standAt (wpAny_bind (wpAny_mono (go n z hz) (fun r z1 h1 => ?_) fun _ _ q => q.elim)))
  cases r with
  | none => exact wpAny_pure h1
  | some v =>
    refine wpAny_bind (wpAny_mono h1 (fun _ z2 h2 => wpAny_bind (wpAny_mono h2 (fun _ z3 h3 => ?_) fun _ _ q => q.elim)) fun _ _ q => q.elim)
    refine wpAny_bind (wpAny_of_eq (a := true) (by rfl) ?_)
    refine wpAny_bind (wpAny_mono h3 (fun x z4 h4 => ?_) fun _ _ q => q.elim)
    refine wpAny_bind (wpAny_standAt (wpAny_bind (wpAny_of_eq (hf x) (wpAny_bind (wpAny_holding (wpAny_mono h4 (fun i2 z5 h5 => ?_) fun _ _ q => q.elim))))))
    refine wpAny_bind (wpAny_runOwn (M := model pr ww) ?_)
    rw [Around.mark_none]
    refine codeAny_mono h5 fun r z6 h6 => ?_
    cases r with
    | error e => exact h6.elim
    | ok f => first
      | exact wpAny_pure ⟨rfl, h6⟩
      | exact wpAny_bind (wpAny_pure (wpAny_pure ⟨rfl, h6⟩))
theorem sc_inner (J : Nat → Shared → Prop)
    (go : ∀ n z, J n z → wpAny (model pr ww) A (pyNext it) (fun r z1 => match r with
      | none => R (.ok .next) z1
      | some v => wpAny (model pr ww) A (letOwnedTupleGo tb it v) (fun _ z2 => wpAny (model pr ww) A (assign tb en v) (fun _ z3 =>
          wpAny (model pr ww) A (forIn fb true fun c r => if r = true then do let ok ← isTrue c en (eval c en); pure (ForInStep.yield ok) else pure (ForInStep.yield r)) (fun good z4 =>
            if good = true then wpAny (model pr ww) A (eval el en) (fun x z5 => wpAny (model pr ww) A (call (.builtin "set.add") [ac, x]) (fun _ z6 => ∃ m, m < n ∧ J m z6) (fun _ _ => False) z5) (fun _ _ => False) z4
            else ∃ m, m < n ∧ J m z4) (fun _ _ => False) z3) (fun _ _ => False) z2) (fun _ _ => False) z1) (fun _ _ => False) z) (n : Nat) (h : J n st) :
    codeAny (model pr ww) A (.compLoop (scE el ta ia tb ib fb sc ps) 1 it ac en) R st := by
  refine codeAny_loop rfl J (fun n z hz => ?_) n h
  show wpAny _ A ((compTurn (scE el ta ia tb ib fb sc ps) 1 it ac en).onRaise (fun x => do noteFrame x en; theTreesLotGoes x)) _ _ z
  refine wpAny_noted ?_
  have tree : compTurn (scE el ta ia tb ib fb sc ps) 1 it ac en = (do
      standAt ib.pos
      match ← pyNext it with
      | none => pure (.done .next)
      | some v =>
        letOwnedTupleGo tb it v
        assign tb en v
        let mut good := true
        for c in fb do
          if good then good ← isTrue c en (eval c en)
        if good then
          (do let v ← eval el en; standAt el.pos; let _ ← call (.builtin "set.add") [ac, v])
        again (.compLoop (scE el ta ia tb ib fb sc ps) 1 it ac en)) := by rfl
  rw [tree]
  refine wpAny_bind (wpAny_standAt (wpAny_bind (wpAny_mono (go n z hz) (fun r z1 h1 => ?_) fun _ _ q => q.elim)))
  cases r with
  | none => exact wpAny_pure h1
  | some v =>
    refine wpAny_bind (wpAny_mono h1 (fun _ z2 h2 => wpAny_bind (wpAny_mono h2 (fun _ z3 h3 => ?_) fun _ _ q => q.elim)) fun _ _ q => q.elim)
    refine wpAny_bind (wpAny_mono h3 (fun good z4 h4 => ?_) fun _ _ q => q.elim)
    cases good with
    | false => exact wpAny_pure ⟨rfl, h4⟩
    | true => exact wpAny_bind (wpAny_bind (wpAny_mono h4 (fun x z5 h5 => wpAny_bind (wpAny_standAt (wpAny_bind (wpAny_mono h5 (fun _ z6 h6 => wpAny_pure (wpAny_pure ⟨rfl, h6⟩)) fun _ _ q => q.elim)))) fun _ _ q => q.elim))
/-- the second clause begins -/
theorem sc_begin (h0 : codeAny (model pr ww) A (.compLoop (scE el ta ia tb ib fb sc ps) 1 it ac en) R st)
    (h : wpAny (model pr ww) A (pyIter it) (fun i2 z => codeAny (model pr ww) A (.compLoop (scE el ta ia tb ib fb sc ps) 1 i2 ac en) R z) (fun _ _ => False) st) :
    codeAny (model pr ww) A (.compStart (scE el ta ia tb ib fb sc ps) 1 it ac en) R st := by
  refine codeAny_of_tree ?_
  show wpAny _ _ ((compStart (scE el ta ia tb ib fb sc ps) 1 it ac en).onRaise (fun x => do noteFrame x en; standAt theWindowsPlace)) _ _ st
  refine wpAny_notedAt ?_
  unfold compStart
  show wpAny _ _ (ask >>= _) _ _ st
  apply wpAny_bind; refine wpAny_askSetting (wpAny_ite ?_)
  split
  · first
      | exact wpAny_pure ⟨rfl, h0⟩
      | exact wpAny_bind (wpAny_pure (wpAny_pure ⟨rfl, h0⟩))
  · apply wpAny_bind; refine wpAny_rule ?_
    show wpAny _ _ (standAt ib.pos >>= _) _ _ st
    exact wpAny_bind (wpAny_standAt (wpAny_bind (wpAny_mono h (fun i2 z q => wpAny_pure ⟨rfl, q⟩) fun _ _ q => q.elim)))
end
/-- its reading: D the new set; behind the first clause's store the second source's own loop, from which Nx is reached -/
def tSc2 (w : World) (wi : TI) (g : TG) (wi1 : TI) (g1 : TG) (tt1 : TT) (te : TE) (vs vs1 : List Nat) : TE := fun sg G Q => wi sg G fun J G1 => ∀ D, G1 D = none →
  ∃ W : Nat → Nat → Hp → Prop, (∃ m, W 0 m (upd G1 D (SetO w D (fun _ => false) 0))) ∧ ∀ i m G, W i m G →
    (J.stop i G ∧ Q (.ref D) G) ∨ (J.go i G ∧ ∃ Nx : Hp → Prop, (∀ G', Nx G' → ∃ m', m' < m ∧ W (i + 1) m' G') ∧ ∀ x G', J.yld i G x G' →
      g x (wipe sg vs) G' fun sg2 G2 => wipe sg2 vs = wipe sg vs ∧ wi1 sg2 G2 fun J1 G3 => ∃ W1 : Nat → Nat → Hp → Prop, (∃ m, W1 0 m G3) ∧ ∀ j k G, W1 j k G →
        (J1.stop j G ∧ Nx G) ∨ (J1.go j G ∧ ∃ Ny : Hp → Prop, (∀ G', Ny G' → ∃ k', k' < k ∧ W1 (j + 1) k' G') ∧ ∀ x G', J1.yld j G x G' →
          g1 x (wipe sg2 vs1) G' fun sg3 G4 => wipe sg3 vs1 = wipe sg2 vs1 ∧ tt1 sg3 G4 fun b G5 =>
            if b = true then te sg3 G5 fun y G6 => ∃ (c : Int) (S : Int → Bool) (n : Nat), y = .int c ∧ G6 D = some (SetO w D S n) ∧ n + 1 < scanBound ∧ Ny (upd G6 D (SetO w D (fun j => S j || decide (j = c)) (if S c = true then n else n + 1))) else Ny G5))
section
variable {X : Cx}
theorem pe_sc2 {el ta ia tb ib : Expr} {fb : List Expr} {sc : Scope} {own : List (Str × Nat)} {vs1 : List Nat} {ps : Pos} {wi wi1 : TI} {g g1 : TG} {tt1 : TT} {te : TE} (hc : X.calm = true) (hN : X.N.Nodup) (hi : PI X ta ia wi) (ok : BlkOk X.N X.env.scope sc own) (hv : ∀ i ∈ vs1, i ∈ own.map (·.2))
    (hg : ∀ (s : Shared) (H : Hp) (C : Addr) (cl : List (Str × Addr)) (fp : List Addr), PG (X.blk s H sc (compEnvC sc cl C X.env) fp) ta g)
    (hi1 : ∀ (s : Shared) (H : Hp) (C : Addr) (cl : List (Str × Addr)) (fp : List Addr), PI (X.blk s H sc (compEnvC sc cl C X.env) fp) tb ib wi1)
    (hg1 : ∀ (s : Shared) (H : Hp) (C : Addr) (cl : List (Str × Addr)) (fp : List Addr), PG (X.blk s H sc (compEnvC sc cl C X.env) fp) tb g1)
    (ht1 : ∀ (s : Shared) (H : Hp) (C : Addr) (cl : List (Str × Addr)) (fp : List Addr), PTs (X.blk s H sc (compEnvC sc cl C X.env) fp) fb tt1)
    (he : ∀ (s : Shared) (H : Hp) (C : Addr) (cl : List (Str × Addr)) (fp : List Addr), PE (X.blk s H sc (compEnvC sc cl C X.env) fp) el te)
    (hs : ∀ x, foldedSetIterable ia X.env x = pure x := by intro _; rfl) (hs1 : ∀ env x, foldedSetIterable ib env x = pure x := by intro _ _; rfl) :
    PE X (scE el ta ia tb ib fb sc ps) (tSc2 X.w wi g wi1 g1 tt1 te (own.map (·.2)) vs1) := by
  refine ⟨fun pz z0 sg G0 Qq K0 h => ?_⟩
  rw [PpSet.eval_SetComp]
  have frees : ∀ y ∈ sc.names, y.2 = .free → ∃ c, X.env.cells.lookup y.1 = some c := fun y hy e => K0.ok.has _ ((ok.free y hy e).elim (fun a => .inl a) fun a => .inr a)
  refine wpAny_comprehension_free (use := none) rfl hs (closure_ok frees) ok.kind (fun y hy e => (ok.uniq y hy).trans (congrArg some e)) (thn (hi.run pz z0 sg G0 _ K0 h) fun _ z1 h1 => thn h1 fun iv z2 h2 => ?_)
  obtain ⟨it, fp, tn, Jt, G2, rfl, K2, T, t2, f2, q⟩ := h2
  refine PpSet.newSet_ok (newEnv_comp ?_)
  -- the new set, at D
  obtain ⟨D, hD⟩ : ∃ D, D = z2.heap.objs.size := ⟨_, rfl⟩
  rw [← hD]
  have freeD : G2 D = none := K2.hok.fresh (Nat.le_of_eq hD.symm)
  obtain ⟨W, ⟨m0, w0⟩, turn⟩ := q D freeD
  obtain ⟨z3, hz3⟩ : ∃ z3 : Shared, z3 = { z2 with heap := z2.heap.push { cls := .type "set", dict := none, data := .set #[] 0 (.fresh 0 0 (!X.w.params.followText "set-order")) } } := ⟨_, rfl⟩
  have p3 : z3.heap = z2.heap.push { cls := .type "set", dict := none, data := .set #[] 0 (.fresh 0 0 (!X.w.params.followText "set-order")) } := by rw [hz3]
  have keep3 : ∀ b o, z2.heap.get? b = some o → z3.heap.get? b = some o := fun b o e => by
    rw [p3]
    exact Heap.get?_push_of_some (h := z2.heap) _ e
  have K3 : Inv X pz sg (upd G2 D (SetO X.w D (fun _ => false) 0)) z3 := by
    rw [hz3]
    exact K2.laid (t' := z2.toks) (fun b o e => Heap.get?_push_of_some _ e) (Nat.le_of_eq hD.symm) (hD ▸ setO_new (setR_fresh X.w))
  have old : ∀ b ∈ fp, b < z2.heap.objs.size := fun b hb => (T.obj _ _ t2 b hb).elim fun _ e => Heap.lt_size e.1
  have f3 : ∀ b ∈ fp, FpOk X pz (upd G2 D (SetO X.w D (fun _ => false) 0)) b ∧ b < z3.heap.objs.size := fun b hb =>
    ⟨⟨by rw [upd_ne (by rw [hD]; exact Nat.ne_of_lt (old b hb))]; exact (f2 b hb).1, (f2 b hb).2⟩, by rw [p3, Heap.size_push]; exact Nat.lt_succ_of_lt (old b hb)⟩
  have K4 := block_start K3 ok hN f3
  have nf : ∀ b ∈ fp, upd G2 D (SetO X.w D (fun _ => false) 0) b = none := fun b hb => (f3 b hb).1.1
  -- the block's context
  have Bg := hg z3 (upd G2 D (SetO X.w D (fun _ => false) 0)) z3.heap.objs.size (cellsFrom (z3.heap.objs.size + 1) sc.names (cloFrom X.env.cells sc.names [])) fp
  have Bi := hi1 z3 (upd G2 D (SetO X.w D (fun _ => false) 0)) z3.heap.objs.size (cellsFrom (z3.heap.objs.size + 1) sc.names (cloFrom X.env.cells sc.names [])) fp
  have Bh := hg1 z3 (upd G2 D (SetO X.w D (fun _ => false) 0)) z3.heap.objs.size (cellsFrom (z3.heap.objs.size + 1) sc.names (cloFrom X.env.cells sc.names [])) fp
  have Bt := ht1 z3 (upd G2 D (SetO X.w D (fun _ => false) 0)) z3.heap.objs.size (cellsFrom (z3.heap.objs.size + 1) sc.names (cloFrom X.env.cells sc.names [])) fp
  have Be := he z3 (upd G2 D (SetO X.w D (fun _ => false) 0)) z3.heap.objs.size (cellsFrom (z3.heap.objs.size + 1) sc.names (cloFrom X.env.cells sc.names [])) fp
  have goal : codeAny (model X.prog X.w) X.A (.compStart (scE el ta ia tb ib fb sc ps) 0 (.ref it) (.ref D) (compEnvC sc (cellsFrom (z3.heap.objs.size + 1) sc.names (cloFrom X.env.cells sc.names [])) z3.heap.objs.size X.env))
      (compPost (model X.prog X.w) X.A X.xe none (EP X pz sg Qq) (.ref D) z3.heap.objs.size) { z3 with heap := pushCells (z3.heap.push { cls := .type "dict", data := .dict #[] }) sc.names } := by
    obtain ⟨ce, hce⟩ : ∃ ce, ce = compEnvC sc (cellsFrom (z3.heap.objs.size + 1) sc.names (cloFrom X.env.cells sc.names [])) z3.heap.objs.size X.env := ⟨_, rfl⟩
    rw [← hce] at K4 Bg Bi Bh Bt Be ⊢
    have lc : ce.locals = z3.heap.objs.size := by rw [hce]; rfl
    obtain ⟨G3, hG3⟩ : ∃ G3, G3 = upd G2 D (SetO X.w D (fun _ => false) 0) := ⟨_, rfl⟩
    rw [← hG3] at K3 K4 Bg Bi Bh Bt Be w0 f3
    have nf3 : ∀ b ∈ fp, G3 b = none := fun b hb => (f3 b hb).1.1
    obtain ⟨z4, hz4⟩ : ∃ z4 : Shared, z4 = { z3 with heap := pushCells (z3.heap.push { cls := .type "dict", data := .dict #[] }) sc.names } := ⟨_, rfl⟩
    rw [← hz4] at K4 ⊢
    have t4 : tn 0 z4.heap := T.keep _ _ _ t2 fun b _ o e => by
      rw [hz4]
      exact pushCells_keeps _ _ _ _ (Heap.get?_push_of_some _ (keep3 b o e))
    -- the iterator's objects stay untracked
    have fpk : ∀ {sg' : L2.St} {G' : Hp} {z' : Shared}, Inv (X.blk z3 G3 sc ce fp) [] sg' G' z' → (∀ b ∈ fp, G' b = none) → ∀ b ∈ fp, FpOk (X.blk z3 G3 sc ce fp) [] G' b := fun Kk hn b hb =>
      ⟨hn b hb, (Kk.ok.exf b hb).1, Kk.ok.exfs b hb, .inl hb, fun x c e => (Kk.ok.exf b hb).2 x c e, fun p hp => by simp at hp⟩
    have loop : codeAny (model X.prog X.w) X.A (.compLoop (scE el ta ia tb ib fb sc ps) 0 (.ref it) (.ref D) ce) (compPost (model X.prog X.w) X.A X.xe none (EP X pz sg Qq) (.ref D) z3.heap.objs.size) z4 := by
      refine sc_outer (hs1 ce) (fun n z => ∃ i G, Inv (X.blk z3 G3 sc ce fp) [] (wipe sg (own.map (·.2))) G z ∧ tn i z.heap ∧ (∀ b ∈ fp, G b = none) ∧ W i n G) ?_ m0 ⟨0, G3, K4, t4, nf3, w0⟩
      rintro n z5 ⟨i, G5, K5, t5, n5, w5⟩
      rcases turn i n G5 w5 with ⟨halt, qq⟩ | ⟨go, Nx, hNx, step⟩
      · refine thnF (T.done (X.blk z3 G3 sc ce fp) rfl rfl rfl hc i [] z5 _ G5 (fun _ _ => False) K5 (fpk K5 n5) t5 halt) fun r z6 ⟨hr, K6⟩ => ?_
        subst hr
        have K7 : Inv X pz sg G5 z6 := K3.call' (ch := fp) K6.os K6.base K6.hok K6.bare fun b hb => ⟨(f3 b hb).1.2.2.2.1, (f3 b hb).1.2.1, (f3 b hb).1.2.2.2.2.1, (f3 b hb).1.2.2.2.2.2⟩
        have nC : G5 z3.heap.objs.size = none := lc ▸ (show G5 ce.locals = none from K6.free)
        obtain ⟨m, hm, _⟩ := K6.loc
        have ff := K3.fpOk (Nat.le_refl _) nC
        refine ⟨m, lc ▸ (show z6.heap.Ns ce.locals m from hm), fun h'' sb => ?_⟩
        obtain ⟨a0, a1, _, a3, a4, a5⟩ := ff
        exact ⟨.ref D, G5, K7.turned (t' := z6.toks) (fun b o hb e => (sb.2 b hb).trans e) a0 a1 a3 a4 a5, rfl, qq⟩
      · refine thnF (T.item (X.blk z3 G3 sc ce fp) rfl rfl rfl hc i [] z5 _ G5 (fun _ _ => False) K5 (fpk K5 n5) t5 go) fun r z6 ⟨u, hr, h6⟩ => ?_
        subst hr
        refine thnF h6 fun _ z7 ⟨x, G7, K7, r7, y7, t7, n7⟩ => ?_
        refine thnF (Bg.run _ z7 _ G7 x u _ (K7.pinned (fpk K7 n7) (T.obj _ _ t7)) r7 (step x G7 y7)) fun _ z8 ⟨sg8, G8, K8, w8, q8⟩ => ?_
        have len8 : (wipe sg (own.map (·.2))).length = sg8.length := by rw [← w8, wipe_length]
        -- the turn's end
        have fin : ∀ {z' : Shared} {G' : Hp}, Inv (X.blk z3 G3 sc ce fp) ([] ++ pinsAt fp z7.heap) (wipe sg8 vs1) G' z' → Nx G' → ∃ m, m < n ∧ ∃ i G, Inv (X.blk z3 G3 sc ce fp) [] (wipe sg (own.map (·.2))) G z' ∧ tn i z'.heap ∧ (∀ b ∈ fp, G b = none) ∧ W i m G := fun {z' G'} Kk nx => by
          obtain ⟨m', lt, w'⟩ := hNx G' nx
          have pin : ∀ b ∈ fp, ∀ o, z7.heap.get? b = some o → z'.heap.get? b = some o ∧ G' b = none := fun b hb o e =>
            let y := Kk.pin (b, o) (List.mem_append_right _ (List.mem_append_right _ (mem_pinsAt hb e)))
            ⟨y.1, y.2.1⟩
          refine ⟨m', lt, i + 1, G', (Kk.unpinned (pins := [])).weak (by rw [len8, wipe_length]) (fun j v e => ?_), T.keep _ _ _ t7 fun b hb o e => (pin b hb o e).1, fun b hb => ?_, w'⟩
          · rw [← w8] at e
            obtain ⟨e1, e2⟩ := wipe_some (σ := sg8) e
            rw [wipe_out fun y => e2 (hv j y)]
            exact e1
          · obtain ⟨o, e, _⟩ := T.obj _ _ t7 b hb
            exact (pin b hb o e).2
        refine thnF (Bi.run _ z8 sg8 G8 _ K8 q8) fun _ z9 h9 => thnF h9 fun iw z10 h10 => ?_
        obtain ⟨it1, fp1, tn1, J1, G10, rfl, K10, T1, t10, f10, W1, ⟨m1, w1⟩, turn1⟩ := h10
        have fpk1 : ∀ {G' : Hp}, (∀ b ∈ fp1, G' b = none) → ∀ b ∈ fp1, FpOk (X.blk z3 G3 sc ce fp) ([] ++ pinsAt fp z7.heap) G' b := fun hn b hb => ⟨hn b hb, (f10 b hb).2⟩
        have loop1 : codeAny (model X.prog X.w) X.A (.compLoop (scE el ta ia tb ib fb sc ps) 1 (.ref it1) (.ref D) ce)
            (fun r z' => match r with | .ok _ => ∃ m, m < n ∧ ∃ i G, Inv (X.blk z3 G3 sc ce fp) [] (wipe sg (own.map (·.2))) G z' ∧ tn i z'.heap ∧ (∀ b ∈ fp, G b = none) ∧ W i m G | .error _ => False) z10 := by
          refine sc_inner (fun k z => ∃ j G, Inv (X.blk z3 G3 sc ce fp) ([] ++ pinsAt fp z7.heap) (wipe sg8 vs1) G z ∧ tn1 j z.heap ∧ (∀ b ∈ fp1, G b = none) ∧ W1 j k G) ?_ m1 ⟨0, G10, K10.weak (wipe_length _ _) (fun j v e => (wipe_some e).1), t10, fun b hb => (f10 b hb).1, w1⟩
          rintro k z11 ⟨j, G11, K11, t11, n11, w11⟩
          rcases turn1 j k G11 w11 with ⟨halt1, nx1⟩ | ⟨go1, Ny, hNy, step1⟩
          · refine thnF (T1.done (X.blk z3 G3 sc ce fp) rfl rfl rfl hc j _ z11 (wipe sg8 vs1) G11 (fun _ _ => False) K11 (fpk1 n11) t11 halt1) fun r z12 ⟨hr, K12⟩ => ?_
            subst hr
            exact fin K12 nx1
          · refine thnF (T1.item (X.blk z3 G3 sc ce fp) rfl rfl rfl hc j _ z11 (wipe sg8 vs1) G11 (fun _ _ => False) K11 (fpk1 n11) t11 go1) fun r z12 ⟨u1, hr, h12⟩ => ?_
            subst hr
            refine thnF h12 fun _ z13 ⟨x1, G13, K13, r13, y13, t13, n13⟩ => ?_
            refine thnF (Bh.run _ z13 (wipe sg8 vs1) G13 x1 u1 _ (K13.pinned (fpk1 n13) (T1.obj _ _ t13)) r13 (step1 x1 G13 y13)) fun _ z14 ⟨sg14, G14, K14, w14, q14⟩ => ?_
            refine thnF (Bt.run _ z14 sg14 G14 _ K14 q14) fun b z15 ⟨G15, K15, q15⟩ => ?_
            have fin1 : ∀ {z' : Shared} {G' : Hp}, Inv (X.blk z3 G3 sc ce fp) (([] ++ pinsAt fp z7.heap) ++ pinsAt fp1 z13.heap) sg14 G' z' → Ny G' → ∃ m, m < k ∧ ∃ j G, Inv (X.blk z3 G3 sc ce fp) ([] ++ pinsAt fp z7.heap) (wipe sg8 vs1) G z' ∧ tn1 j z'.heap ∧ (∀ b ∈ fp1, G b = none) ∧ W1 j m G := fun {z' G'} Kk nx => by
              obtain ⟨m', lt, w'⟩ := hNy G' nx
              have pin : ∀ b ∈ fp1, ∀ o, z13.heap.get? b = some o → z'.heap.get? b = some o ∧ G' b = none := fun b hb o e =>
                let y := Kk.pin (b, o) (List.mem_append_right _ (List.mem_append_right _ (mem_pinsAt hb e)))
                ⟨y.1, y.2.1⟩
              refine ⟨m', lt, j + 1, G', Kk.unpinned.weak (by rw [← w14, wipe_length]) (fun j v e => by rw [← w14] at e; exact (wipe_some e).1), T1.keep _ _ _ t13 fun b hb o e => (pin b hb o e).1, fun b hb => ?_, w'⟩
              obtain ⟨o, e, _⟩ := T1.obj _ _ t13 b hb
              exact (pin b hb o e).2
            cases b with
            | false =>
              simp only [Bool.false_eq_true, if_false] at q15 ⊢
              exact fin1 K15 q15
            | true =>
              simp only [if_true] at q15 ⊢
              refine thnF (Be.run _ z15 sg14 G15 _ K15 q15) fun v z16 ⟨y, G16, K16, r16, c, S, nn, ey, hS, hroom, nx⟩ => ?_
              subst ey
              refine wpAny_mono (((mt_sadd (X := X.blk z3 G3 sc ce fp)) _ z16 sg14 G16 (.ref D) [.int c] (.ref D) [v] (fun _ G' => Ny G') K16 rfl (.cons r16 .nil) ⟨D, c, S, nn, rfl, rfl, hS, hroom, nx⟩)) (fun _ z17 ⟨_, G17, K17, _, q17⟩ => fin1 K17 q17) fun _ _ q => q
        exact sc_begin loop1 (T1.self X.A 0 _ _ _ t10 loop1)
    exact PpSet.codeAny_compStart_set loop (T.self X.A 0 _ _ _ t4 loop)
  exact hz3 ▸ goal
end
end Cc

/-! The first start at which two plans differ is a telling one. -/
namespace Cc
open PySem PySem.Spec PyProof.Rows L2
/-- what a plan leaves and carries from x -/
abbrev outF (c : Int) (ss : List Stp) (x : Int) : Int × Int := stepsF c ss (x, 0)
theorem smEnd_ends (m : Sm) : (smEnd m).low = m.low ∧ (smEnd m).high = m.high := by
  unfold smEnd
  split <;> exact ⟨rfl, rfl⟩
theorem dist_even {lo hi x : Int} (h : lo ≤ hi) (h1 : x ≠ lo) (h2 : x ≠ lo + 1) (h3 : x ≠ hi) (h4 : x ≠ hi + 1) : distF lo hi x = 2 * distF lo hi (x - 1) - distF lo hi (x - 2) ∧ clampF lo hi x = 2 * clampF lo hi (x - 1) - clampF lo hi (x - 2) := by
  unfold distF clampF
  constructor <;> omega
/-- off the ends both numbers go on evenly -/
theorem out_even {c x : Int} {ss : List Stp} (hs : ∀ s ∈ ss, s.ok c) (x2 : 2 ≤ x) (x1 : x ≤ c) (h1 : x ≠ (smSteps c ss).low) (h2 : x ≠ (smSteps c ss).low + 1) (h3 : x ≠ (smSteps c ss).high) (h4 : x ≠ (smSteps c ss).high + 1) :
    (outF c ss x).1 = 2 * (outF c ss (x - 1)).1 - (outF c ss (x - 2)).1 ∧ (outF c ss x).2 = 2 * (outF c ss (x - 1)).2 - (outF c ss (x - 2)).2 := by
  obtain ⟨ok, a1, a2⟩ := smSteps_says (c := c) (x := x) (by omega) x1 ss hs
  obtain ⟨_, b1, b2⟩ := smSteps_says (c := c) (x := x - 1) (by omega) (by omega) ss hs
  obtain ⟨_, d1, d2⟩ := smSteps_says (c := c) (x := x - 2) (by omega) (by omega) ss hs
  obtain ⟨e1, e2⟩ := dist_even ok.lh h1 h2 h3 h4
  show (stepsF c ss (x, 0)).1 = 2 * (stepsF c ss (x - 1, 0)).1 - (stepsF c ss (x - 2, 0)).1 ∧ (stepsF c ss (x, 0)).2 = 2 * (stepsF c ss (x - 1, 0)).2 - (stepsF c ss (x - 2, 0)).2
  generalize (stepsF c ss (x, 0)) = px at *
  generalize (stepsF c ss (x - 1, 0)) = py at *
  generalize (stepsF c ss (x - 2, 0)) = pz at *
  obtain ⟨px1, px2⟩ := px
  obtain ⟨py1, py2⟩ := py
  obtain ⟨pz1, pz2⟩ := pz
  simp only at a1 a2 b1 b2 d1 d2
  generalize smSteps c ss = m at *
  obtain ⟨low, high, extra, goal, turned⟩ := m
  simp only at a1 a2 b1 b2 d1 d2 e1 e2
  refine ⟨?_, by show px2 = 2 * py2 - pz2; omega⟩
  show px1 = 2 * py1 - pz1
  cases goal <;> cases turned <;> simp [placeF, sideF] at a2 b2 d2 <;> omega
/-- the numbers that `telling` lists: 0 and both plans' ends, each with the next -/
def boundsF (c : Int) (a b : List Stp) : List Int := [0, (smSteps c a).low, (smSteps c a).high, (smSteps c b).low, (smSteps c b).high]
def TellF (c : Int) (a b : List Stp) (x : Int) : Prop := x ≤ c ∧ ∃ z ∈ boundsF c a b, x = z ∨ x = z + 1
theorem tell_first {c x : Int} {a b : List Stp} (ha : ∀ s ∈ a, s.ok c) (hb : ∀ s ∈ b, s.ok c) (x0 : 0 ≤ x) (x1 : x ≤ c) (hd : outF c a x ≠ outF c b x) (hs : ∀ y, 0 ≤ y → y < x → outF c a y = outF c b y) : TellF c a b x := by
  by_cases q : TellF c a b x
  · exact q
  · exfalso
    have f : ∀ z ∈ boundsF c a b, x ≠ z ∧ x ≠ z + 1 := fun z hz => ⟨fun e => q ⟨x1, z, hz, .inl e⟩, fun e => q ⟨x1, z, hz, .inr e⟩⟩
    simp only [boundsF, List.mem_cons, List.not_mem_nil, or_false, forall_eq_or_imp, forall_eq] at f
    obtain ⟨f0, f1, f2, f3, f4⟩ := f
    obtain ⟨p1, p2⟩ := out_even ha (show 2 ≤ x by omega) x1 f1.1 f1.2 f2.1 f2.2
    obtain ⟨q1, q2⟩ := out_even hb (show 2 ≤ x by omega) x1 f3.1 f3.2 f4.1 f4.2
    have g1 := hs (x - 1) (by omega) (by omega)
    have g2 := hs (x - 2) (by omega) (by omega)
    rw [g1, g2] at p1 p2
    exact hd (Prod.ext (p1.trans q1.symm) (p2.trans q2.symm))
/-- what first_difference answers -/
def FirstF (c : Int) (a b : List Stp) : Option Int → Prop
  | none => ∀ x, 0 ≤ x → x ≤ c → outF c a x = outF c b x
  | some x => 0 ≤ x ∧ x ≤ c ∧ outF c a x ≠ outF c b x ∧ ∀ y, 0 ≤ y → y < x → outF c a y = outF c b y
theorem below {c : Int} {a b : List Stp} (ha : ∀ s ∈ a, s.ok c) (hb : ∀ s ∈ b, s.ok c) {n : Int} (hn : n ≤ c + 1) (ht : ∀ y, 0 ≤ y → y < n → TellF c a b y → outF c a y = outF c b y) : ∀ (k : Nat) (y : Int), y = (k : Int) → y < n → outF c a y = outF c b y := by
  intro k
  induction k using Nat.strongRecOn with
  | _ k ih =>
    intro y hy hlt
    by_cases q : outF c a y = outF c b y
    · exact q
    · exact ht y (by omega) hlt (tell_first ha hb (by omega) (by omega) q fun z z0 z1 => ih z.toNat (by omega) z (by omega) (by omega))
theorem first_some {c : Int} {a b : List Stp} (ha : ∀ s ∈ a, s.ok c) (hb : ∀ s ∈ b, s.ok c) {x : Int} (x0 : 0 ≤ x) (x1 : x ≤ c) (hd : outF c a x ≠ outF c b x) (ht : ∀ y, 0 ≤ y → y < x → TellF c a b y → outF c a y = outF c b y) : FirstF c a b (some x) :=
  ⟨x0, x1, hd, fun y y0 y1 => below ha hb (n := x) (by omega) ht y.toNat y (by omega) y1⟩
theorem first_none {c : Int} {a b : List Stp} (ha : ∀ s ∈ a, s.ok c) (hb : ∀ s ∈ b, s.ok c) (ht : ∀ y, 0 ≤ y → y ≤ c → TellF c a b y → outF c a y = outF c b y) : FirstF c a b none :=
  fun x x0 x1 => below ha hb (n := c + 1) (by omega) (fun y y0 y1 => ht y y0 (by omega)) x.toNat x (by omega) (by omega)
theorem first_uniq {c : Int} {a b : List Stp} : ∀ {o o' : Option Int}, FirstF c a b o → FirstF c b a o' → o = o'
  | none, none, _, _ => rfl
  | none, some x, h, ⟨x0, x1, hd, _⟩ => absurd (h x x0 x1).symm hd
  | some x, none, ⟨x0, x1, hd, _⟩, h => absurd (h x x0 x1).symm hd
  | some x, some y, ⟨x0, x1, hd, hm⟩, ⟨y0, y1, he, hn⟩ => by
    have e : x = y := by
      rcases Int.lt_trichotomy x y with q | q | q
      · exact absurd (hn x x0 q).symm hd
      · exact q
      · exact absurd (hm y y0 q).symm he
    rw [e]
theorem eqv_ints (a b c d : Int) : PyData.eqv (.tuple [.int a, .int b]) (.tuple [.int c, .int d]) = decide ((a, b) = (c, d)) := by
  have q : ∀ i j : Int, (i == j) = decide (i = j) := fun i j => by by_cases h : i = j <;> simp [h]
  simp [PyData.eqv, PyData.eqvAll, q]
theorem shaped_ints (a b : Int) : SeqAt.shaped (.tuple [.int a, .int b]) = true := by
  simp [SeqAt.shaped, PyData.canLay0, PyData.canLayAll0, PyData.depth, PyData.depthAll]
/-- a part of a list of steps -/
theorem Steps.drop {H : Hp} : ∀ {vs : List V} {ss : List Stp} (n : Nat), Steps H vs ss → Steps H (vs.drop n) (ss.drop n)
  | _, _, 0, h => h
  | _, _, _ + 1, .nil => .nil
  | _, _, n + 1, .cons _ t => Steps.drop n t
theorem Steps.take {H : Hp} : ∀ {vs : List V} {ss : List Stp} (n : Nat), Steps H vs ss → Steps H (vs.take n) (ss.take n)
  | _, _, 0, _ => .nil
  | _, _, _ + 1, .nil => .nil
  | _, _, n + 1, .cons r t => .cons r (Steps.take n t)
theorem Steps.cut {H : Hp} {vs : List V} {ss : List Stp} (h : Steps H vs ss) (lo hi : Option Int) : ∃ us, Steps H (cutV vs lo hi) us ∧ us.length ≤ ss.length ∧ ∀ u ∈ us, u ∈ ss := by
  refine ⟨_, (h.drop _).take _, ?_, fun u hu => List.mem_of_mem_drop (List.mem_of_mem_take hu)⟩
  simp only [List.length_take, List.length_drop]
  omega
/-- a walk with a body of any form -/
theorem walk_any {J : It} {n : Nat} {G0 : Hp} {Nx : Hp → Prop} {Bd : V → Hp → (Hp → Prop) → Prop} (Pv : Nat → Hp → Prop) (h0 : Pv 0 G0) (hgo : ∀ i H, i < n → Pv i H → J.go i H) (hst : ∀ H, Pv n H → J.stop n H)
    (hs : ∀ i x H H', i < n → Pv i H → J.yld i H x H' → Bd x H' (Pv (i + 1))) (hd : ∀ H, Pv n H → Nx H) :
    ∃ W : Nat → Nat → Hp → Prop, (∃ m, W 0 m G0) ∧ ∀ j k G, W j k G → (J.stop j G ∧ Nx G) ∨ (J.go j G ∧ ∃ Ny : Hp → Prop, (∀ G', Ny G' → ∃ k', k' < k ∧ W (j + 1) k' G') ∧ ∀ x G', J.yld j G x G' → Bd x G' Ny) := by
  refine ⟨fun i m G => m = n - i ∧ i ≤ n ∧ Pv i G, ⟨n, (Nat.sub_zero n).symm, Nat.zero_le _, h0⟩, ?_⟩
  rintro i m H ⟨rfl, hi, p⟩
  by_cases hlt : i < n
  · exact .inr ⟨hgo i H hlt p, Pv (i + 1), fun H' p' => ⟨n - (i + 1), by omega, rfl, hlt, p'⟩, fun x H' y => hs i x H H' hlt p y⟩
  · have e : i = n := by omega
    subst e
    exact .inl ⟨hst H p, hd H p⟩
theorem walk_tup {K : PySem.W.Frag} {a : Addr} {xs : List V} {G0 : Hp} {Nx : Hp → Prop} {Bd : V → Hp → (Hp → Prop) → Prop} (Pv : Nat → Hp → Prop) (h0 : Pv 0 G0) (hl : ∀ i H, Pv i H → SqT K H a xs)
    (hs : ∀ i x H, xs[i]? = some x → Pv i H → Bd x H (Pv (i + 1))) (hd : ∀ H, Pv xs.length H → Nx H) :
    ∃ W : Nat → Nat → Hp → Prop, (∃ m, W 0 m G0) ∧ ∀ j k G, W j k G → ((Itt K a).stop j G ∧ Nx G) ∨ ((Itt K a).go j G ∧ ∃ Ny : Hp → Prop, (∀ G', Ny G' → ∃ k', k' < k ∧ W (j + 1) k' G') ∧ ∀ x G', (Itt K a).yld j G x G' → Bd x G' Ny) :=
  walk_any (n := xs.length) Pv h0 (fun i H hi p => ⟨xs, xs[i], hl i H p, by simp [hi]⟩) (fun H p => ⟨xs, hl _ H p, Nat.le_refl _⟩) (fun i x H H' hi p y => by
    obtain ⟨e, y⟩ := y
    subst e
    exact hs i x _ (y xs (hl i _ p)) p) hd
theorem walk_list {K : PySem.W.Frag} {a : Addr} {xs : List V} {G0 : Hp} {Nx : Hp → Prop} {Bd : V → Hp → (Hp → Prop) → Prop} (Pv : Nat → Hp → Prop) (h0 : Pv 0 G0) (hl : ∀ i H, Pv i H → SqL K H a xs)
    (hs : ∀ i x H, xs[i]? = some x → Pv i H → Bd x H (Pv (i + 1))) (hd : ∀ H, Pv xs.length H → Nx H) :
    ∃ W : Nat → Nat → Hp → Prop, (∃ m, W 0 m G0) ∧ ∀ j k G, W j k G → ((Itl K a).stop j G ∧ Nx G) ∨ ((Itl K a).go j G ∧ ∃ Ny : Hp → Prop, (∀ G', Ny G' → ∃ k', k' < k ∧ W (j + 1) k' G') ∧ ∀ x G', (Itl K a).yld j G x G' → Bd x G' Ny) :=
  walk_any (n := xs.length) Pv h0 (fun i H hi p => ⟨xs, xs[i], hl i H p, by simp [hi]⟩) (fun H p => ⟨xs, hl _ H p, Nat.le_refl _⟩) (fun i x H H' hi p y => by
    obtain ⟨e, y⟩ := y
    subst e
    exact hs i x _ (y xs (hl i _ p)) p) hd
theorem mem_before {ns : List Int} (hp : ns.Pairwise (· < ·)) {i : Nat} {z y : Int} (hz : ns[i]? = some z) (hy : y ∈ ns) (hlt : y < z) : y ∈ ns.take i := by
  obtain ⟨j, hj, ej⟩ := List.mem_iff_getElem.mp hy
  obtain ⟨hi, ei⟩ := List.getElem?_eq_some_iff.mp hz
  by_cases q : j < i
  · rw [List.mem_take_iff_getElem]
    exact ⟨j, by omega, ej⟩
  · exfalso
    by_cases e : j = i
    · subst e
      omega
    · have := List.pairwise_iff_getElem.mp hp i j hi hj (by omega)
      omega
/-! ### lists of steps: cut, joined, twice -/
section
variable {K : PySem.W.Frag} {c : Int} {H : Hp} {l b : Addr} {ws zs : List V} {ss us : List Stp} {Q : VK}
theorem do_cut {lo hi : Option Int} (hl : H l = some (.lst ws)) (hs : Steps H ws ss) (ho : ∀ s ∈ ss, s.ok c)
    (k : ∀ p vs us H', H p = none → Same H H' → H' p = some (.lst vs) → Steps H' vs us → us.length ≤ ss.length → (∀ u ∈ us, u.ok c) → Q (.ref p) H') : rSlL K (.ref l) lo hi H Q :=
  ⟨l, ws, rfl, SqL.of hl, fun p hp => let ⟨us, h1, h2, h3⟩ := hs.cut lo hi; k p _ us _ hp (same_upd hp) upd_same (h1.same (same_upd hp)) h2 fun u hu => ho u (h3 u hu)⟩
theorem do_cat (ha : H l = some (.lst ws)) (hs : Steps H ws ss) (hb : H b = some (.lst zs)) (ht : Steps H zs us) (hn : ss.length + us.length ≤ 100)
    (k : ∀ p H', H p = none → Same H H' → H' p = some (.lst (ws ++ zs)) → Steps H' (ws ++ zs) (ss ++ us) → Q (.ref p) H') : rCat (.ref l) (.ref b) H Q :=
  ⟨l, b, ws, zs, rfl, rfl, ha, hb, by rw [hs.length, ht.length, sizeLine_eq]; omega, fun p hp => k p _ hp (same_upd hp) upd_same ((hs.append ht).same (same_upd hp))⟩
theorem do_twice (ha : H l = some (.lst ws)) (hs : Steps H ws ss) (hn : ss.length ≤ 50)
    (k : ∀ p H', Same H H' → H' p = some (.lst (ws ++ ws)) → Steps H' (ws ++ ws) (ss ++ ss) → Q (.ref p) H') : rRep (.ref l) (.int 2) H Q :=
  ⟨l, 2, ws, rfl, rfl, ha, by decide, by decide, by rw [hs.length, sizeLine_eq]; show ss.length * 2 ≤ _; omega, fun p hp => by
    have e : (List.replicate (2 : Int).toNat ws).flatten = ws ++ ws := by
      show ws ++ (ws ++ []) = ws ++ ws
      rw [List.append_nil]
    rw [e]
    exact k p _ (same_upd hp) upd_same ((hs.append hs).same (same_upd hp))⟩
end
theorem lay_ints : ∀ ns : List Int, PyData.canLayAll0 (ns.map PyData.int) = true ∧ PyData.depthAll (ns.map PyData.int) = 0
  | [] => by simp [PyData.canLayAll0, PyData.depthAll]
  | n :: ns => by
    obtain ⟨a, b⟩ := lay_ints ns
    simp [PyData.canLayAll0, PyData.depthAll, PyData.canLay0, PyData.depth, a, b]
theorem shaped_list (ns : List Int) : SeqAt.shaped (.list (ns.map PyData.int)) = true := by
  obtain ⟨a, b⟩ := lay_ints ns
  unfold SeqAt.shaped
  simp [PyData.canLay0, PyData.depth, a, b]
theorem eqv_nil (ns : List Int) : PyData.eqv (.list (ns.map PyData.int)) (.list []) = decide (ns = []) := by
  cases ns <;> simp [PyData.eqv, PyData.eqvAll]
theorem dp_ints {K : PySem.W.Frag} {H : Hp} : ∀ ns : List Int, DpAll K H (ns.map V.int) (ns.map PyData.int)
  | [] => .nil
  | n :: ns => .cons (.int n) (dp_ints ns)
/-- the first of the starts below n -/
def FirstB (c : Int) (a b : List Stp) (n : Nat) : Option Int → Prop
  | none => ∀ x, 0 ≤ x → x < (n : Int) → outF c a x = outF c b x
  | some x => 0 ≤ x ∧ x < (n : Int) ∧ outF c a x ≠ outF c b x ∧ ∀ y, 0 ≤ y → y < x → outF c a y = outF c b y
theorem firstB_no {c : Int} {a b : List Stp} {n : Nat} : ∀ {o : Option Int}, FirstB c a b n o → outF c a (n : Int) = outF c b (n : Int) → FirstB c a b (n + 1) o
  | none, h, e => fun x x0 x1 => by
    by_cases q : x = (n : Int)
    · rw [q]
      exact e
    · exact h x x0 (by omega)
  | some _, ⟨h1, h2, h3, h4⟩, _ => ⟨h1, by omega, h3, h4⟩
theorem firstB_yes {c : Int} {a b : List Stp} {n : Nat} : ∀ {ns : List Int}, FirstB c a b n ns.head? → outF c a (n : Int) ≠ outF c b (n : Int) → FirstB c a b (n + 1) (ns ++ [(n : Int)]).head?
  | [], h, e => ⟨by omega, by omega, e, fun y y0 y1 => h y y0 y1⟩
  | _ :: _, ⟨h1, h2, h3, h4⟩, _ => ⟨h1, by omega, h3, h4⟩
theorem firstB_end {c : Int} {a b : List Stp} (c0 : 0 ≤ c) : ∀ {o : Option Int}, FirstB c a b (c + 1).toNat o → FirstF c a b o
  | none, h => fun x x0 x1 => h x x0 (by omega)
  | some _, ⟨h1, h2, h3, h4⟩ => ⟨h1, by omega, h3, h4⟩
theorem first_swap {c : Int} {a b : List Stp} : ∀ {o : Option Int}, FirstF c a b o → FirstF c b a o
  | none, h => fun x x0 x1 => (h x x0 x1).symm
  | some _, ⟨h1, h2, h3, h4⟩ => ⟨h1, h2, fun e => h3 e.symm, fun y y0 y1 => (h4 y y0 y1).symm⟩
theorem first_same {c : Int} {a b : List Stp} {o o' : Option Int} (h : FirstF c a b o) (h' : FirstF c a b o') : o = o' := first_uniq h (first_swap h')
theorem scal_goal (o o' : Option Int) : scal (goalV o) (goalV o') = true := by
  cases o <;> cases o' <;> rfl
end Cc

namespace Cc
open PySem PySem.Spec PyProof.Rows L2
abbrev sTell : Stmt := top 36
abbrev sFirst : Stmt := top 35
def spTell (C : Addr) : Sp := fun vs H Q _ => ∃ (p q : Addr) (a b : List Stp) (c : Int), vs = [.ref p, .ref q, .int c] ∧ PlanAt C H p a ∧ PlanAt C H q b ∧ 0 ≤ c ∧ c ≤ 1000000000000000000 ∧ (∀ s ∈ a, s.ok c) ∧ (∀ s ∈ b, s.ok c) ∧ a.length ≤ 60 ∧ b.length ≤ 60 ∧
  ∀ (l : Addr) (ns : List Int) (H' : Hp), Same H H' → H' l = some (.lst (ns.map V.int)) → ns.Pairwise (· < ·) → (∀ k, k ∈ ns ↔ TellF c a b k) → Q (.ref l) H'
def spFirst (C : Addr) : Sp := fun vs H Q _ => ∃ (p q : Addr) (a b : List Stp) (c : Int), vs = [.ref p, .ref q, .int c] ∧ PlanAt C H p a ∧ PlanAt C H q b ∧ 0 ≤ c ∧ c ≤ 1000000000000000000 ∧ (∀ s ∈ a, s.ok c) ∧ (∀ s ∈ b, s.ok c) ∧ a.length ≤ 60 ∧ b.length ≤ 60 ∧
  ∀ o H', Same H H' → FirstF c a b o → Q (goalV o) H'
section
variable {P : Program} {w : World} {K : PySem.W.Frag} {mg : Str → Option Value} {base : Heap} {C TU pS gS : Addr} {mc : Value}
abbrev nTell : List Str := ["plan", "other", "chairs", "bounds", "each", "low", "high", "bound", "start"]
theorem scTell : FnScope nTell ["plan", "other", "chairs"] (defScope sTell) := ⟨rfl, rfl, rfl, by decide +kernel, rfl, by decide +kernel, by decide +kernel⟩
def tiPair (K : PySem.W.Frag) : TI := iTup K (tTup (tCons (tVar 7) (tCons (tOp (rI0 fun i j => .int (i + j)) (tVar 7) (tC (.int 1))) tNil)))
def ttFit : TT := tTest (tOp (rI0 fun i j => .bl (decide (i ≤ j))) (tVar 8) (tVar 2))
theorem ok_tell {f f1 : Addr} {fd : FuncData} (F : Fun K "telling_starts" "telling_starts" sTell f fd) (T : Txt K mg C TU pS gS mc) (DT : Dn P w K mg base 4 "summary" f1 (spSummary C)) : FnOk P w K mg base CX0 5 f fd ["plan", "other", "chairs"] (spTell C) := by
  refine F.ok scTell (fun vs H Q E h => ?_) (fun cdv A outer s H vs Q E hr h => ?_)
  · obtain ⟨p, q, a, b, c, rfl, _⟩ := h
    rfl
  · obtain ⟨p, q, a, b, c, rfl, hp, hq, c0, c1, oa, ob, na, nb, k⟩ := h
    refine ⟨_, pss_cons (ps_set (i := 3) scTell.nd rfl (.inl rfl) (pe_lst (pa_cons pe_int pa_nil)))
      (pss_cons (ps_for PassesOwn.never rfl (pi_tup (pe_tup (pa_cons (pv 0) (pa_cons (pv 1) pa_nil)))) (pg_name (i := 4) scTell.nd rfl (.inl rfl))
        (pss_cons (ps_asg (pe_slice sl_tupA (pe_callR DT.ok hr rfl DT.at_ DT.kp pass0 (pa_cons (pv 4) (pa_cons (pv 2) pa_nil))) po_none (po_some pe_int)) (pg_tup rfl (pgs_cons (pg_name (i := 5) scTell.nd rfl (.inl rfl)) (pgs_cons (pg_name (i := 6) scTell.nd rfl (.inl rfl)) pgs_nil))))
        (pss_one (ps_expr (pe_bm PySem.F.plainAttrs_list PySem.F.slot_list_extend PySem.F.type_list_extend mt_extend (pv 3) (pa_cons (pe_lst (pa_cons (pv 5) (pa_cons (pv 6) pa_nil))) pa_nil))))))
      (pss_one (ps_ret (pe_callB (cr_sortedSet rfl) (by rfl) T.b.sorted (by decide +kernel) (pa_cons
        (pe_sc2 (own := [("bound", 7), ("start", 8)]) (vs1 := [8]) (g := gName 7) (g1 := gName 8) (wi1 := tiPair K) (tt1 := ttFit) (te := tVar 8) rfl scTell.nd (pi_list (pv 3)) (blkOk_by (N := nTell) (sc := defScope sTell) (by decide +kernel)) (by decide)
          (fun _ _ _ _ _ => pg_name (i := 7) scTell.nd rfl (.inl rfl))
          (fun _ _ _ _ _ => by exact (pi_tup (pe_tup (pa_cons (pv 7) (pa_cons (pe_op op_add (pv 7) pe_int) pa_nil)))))
          (fun _ _ _ _ _ => pg_name (i := 8) scTell.nd rfl (.inl rfl))
          (fun _ _ _ _ _ => by exact (pts_one (pt_cmpR op_le (pv 8) (pv 2) (nomark _))))
          (fun _ _ _ _ _ => pv 8)) pa_nil))))), ?_⟩
    refine ⟨by show 1 ≤ sizeLine; decide, fun lb hlb => ?_⟩
    refine ⟨_, rfl, _, rfl, by show 2 ≤ sizeLine; decide, fun tt htt => ?_⟩
    have ntb : tt ≠ lb := fun e => by
      rw [e, upd_same] at htt
      cases htt
    have e0 : upd (upd H lb (.lst [.int 0])) tt (.tup [.ref p, .ref q]) lb = some (.lst [.int 0]) := (same_upd htt) _ _ upd_same
    have t0 : upd (upd H lb (.lst [.int 0])) tt (.tup [.ref p, .ref q]) tt = some (.tup [.ref p, .ref q]) := upd_same
    have s0 : Same H (upd (upd H lb (.lst [.int 0])) tt (.tup [.ref p, .ref q])) := (same_upd hlb).trans (same_upd htt)
    generalize upd (upd H lb (.lst [.int 0])) tt (.tup [.ref p, .ref q]) = H0 at *
    have sOf : ∀ H', But lb H0 H' → Same H H' := fun H' b x o e => b x o (ne_of_none e hlb) (s0 x o e)
    refine ⟨tt, rfl, ⟨_, SqT.of t0⟩, for_tup (K := K) (a := tt) (xs := [.ref p, .ref q]) (fun i σ H' => ∃ (x4 x5 x6 : Option V), σ = [some (.ref p), some (.ref q), some (.int c), some (.ref lb), x4, x5, x6, none, none] ∧ But lb H0 H' ∧ H' lb = some (.lst (((boundsF c a b).take (2 * i + 1)).map V.int)))
      ⟨none, none, none, rfl, But.refl _ _, e0⟩ (fun i σ H' _ ⟨_, _, _, _, s1, _⟩ => SqT.of (s1 _ _ ntb t0)) ?_ ?_⟩
    · rintro i v σ H1 hi ⟨x4, x5, x6, rfl, s1, e1⟩
      have hp1 := hp.same (sOf _ s1)
      have hq1 := hq.same (sOf _ s1)
      obtain ⟨r, ss, rfl, hr1, ho, hn, em⟩ : ∃ (r : Addr) (ss : List Stp), v = .ref r ∧ PlanAt C H1 r ss ∧ (∀ s ∈ ss, s.ok c) ∧ ss.length ≤ 60 ∧ (boundsF c a b).take (2 * (i + 1) + 1) = (boundsF c a b).take (2 * i + 1) ++ [(smSteps c ss).low, (smSteps c ss).high] := by
        match i, hi with
        | 0, hi => exact ⟨p, a, (Option.some.inj hi).symm, hp1, oa, na, rfl⟩
        | 1, hi => exact ⟨q, b, (Option.some.inj hi).symm, hq1, ob, nb, rfl⟩
        | i + 2, hi => simp at hi
      have hlen : (((boundsF c a b).take (2 * i + 1)).map V.int).length ≤ 5 := by
        rw [List.length_map, List.length_take]
        exact Nat.min_le_right _ _
      obtain ⟨en1, en2⟩ := smEnd_ends (smSteps c ss)
      refine ⟨_, rfl, _, rfl, r, ss, c, rfl, hr1, c0, c1, ho, hn, fun q2 H2 s2 hq2 => ⟨2, rfl, q2, _, rfl, SqT.of hq2, fun hw => absurd hw.2 (by show ¬ _; simp [smV, HT.sIx]), fun _ t ht => ?_⟩⟩
      have ecut : cutV (smV (smEnd (smSteps c ss))) none (some 2) = [.int (smSteps c ss).low, .int (smSteps c ss).high] := by
        rw [← en1, ← en2]
        rfl
      rw [ecut]
      refine ⟨t, _, rfl, SqT.of upd_same, rfl, _, _, rfl, _, _, rfl, rfl, ?_⟩
      have s3 : Same H1 (upd H2 t (.tup [.int (smSteps c ss).low, .int (smSteps c ss).high])) := s2.trans (same_upd ht)
      generalize upd H2 t (.tup [.int (smSteps c ss).low, .int (smSteps c ss).high]) = H3 at *
      have e3 := s3 _ _ e1
      refine ⟨_, rfl, .inl ⟨rfl, _, SqL.of e3⟩, _, rfl, _, rfl, by show 2 ≤ sizeLine; decide, fun z hz => ⟨lb, z, _, _, rfl, rfl, (same_upd hz) _ _ e3, upd_same, ?_, ?_⟩⟩
      · rw [sizeLine_eq]
        show _ + 2 ≤ _
        omega
      · have nz : lb ≠ z := (ne_of_none e3 hz)
        refine ⟨some (.ref r), some (.int (smSteps c ss).low), some (.int (smSteps c ss).high), rfl, (s1.trans (But.of (s3.trans (same_upd hz)))).trans but_upd, upd_lst ?_⟩
        rw [em, List.map_append]
        rfl
    · rintro σ H1 ⟨x4, x5, x6, rfl, s1, e1⟩
      have e1 : H1 lb = some (.lst ((boundsF c a b).map V.int)) := e1
      refine ⟨_, rfl, lb, rfl, ⟨_, SqL.of e1⟩, fun D hD => ?_⟩
      have nlD : lb ≠ D := ne_of_none e1 hD
      refine walk_list (K := K) (a := lb) (xs := (boundsF c a b).map V.int) (fun i G => But D H1 G ∧ ∃ S n, G D = some (SetO w D S n) ∧ n ≤ 2 * i ∧ ∀ k : Int, S k = true ↔ k ≤ c ∧ ∃ z ∈ (boundsF c a b).take i, k = z ∨ k = z + 1)
        ⟨but_upd, fun _ => false, 0, upd_same, Nat.le_refl _, fun k => by simp⟩ (fun i G ⟨b1, _⟩ => SqL.of (b1 _ _ nlD e1)) ?_ ?_
      · rintro i x G hx ⟨b1, S, n, eS, hn, hS⟩
        rw [List.getElem?_map] at hx
        obtain ⟨z, hz, rfl⟩ : ∃ z, (boundsF c a b)[i]? = some z ∧ x = V.int z := by
          cases e : (boundsF c a b)[i]? with
          | none =>
            rw [e] at hx
            cases hx
          | some z =>
            rw [e] at hx
            exact ⟨z, rfl, (Option.some.inj hx).symm⟩
        have i5 : i < 5 := (List.getElem?_eq_some_iff.mp hz).1
        refine ⟨rfl, _, rfl, _, rfl, _, _, rfl, rfl, by show 2 ≤ sizeLine; decide, fun t ht => ⟨t, rfl, ⟨_, SqT.of upd_same⟩, ?_⟩⟩
        have ntD : t ≠ D := (ne_of_none eS ht).symm
        refine walk_tup (K := K) (a := t) (xs := [.int z, .int (z + 1)]) (fun j G' => But D (upd G t (.tup [.int z, .int (z + 1)])) G' ∧ ∃ S n, G' D = some (SetO w D S n) ∧ n ≤ 2 * i + j ∧ ∀ k : Int, S k = true ↔ k ≤ c ∧ ((∃ z ∈ (boundsF c a b).take i, k = z ∨ k = z + 1) ∨ ∃ m : Nat, m < j ∧ k = z + (m : Int)))
          ⟨But.refl _ _, S, n, (same_upd ht) _ _ eS, by omega, fun k => by rw [hS]; simp⟩ (fun j G' ⟨b2, _⟩ => SqT.of (b2 _ _ ntD upd_same)) ?_ ?_
        · rintro j y G' hy ⟨b2, S', n', eS', hn', hS'⟩
          obtain ⟨j2, rfl⟩ : j < 2 ∧ y = V.int (z + (j : Int)) := by
            match j, hy with
            | 0, hy => exact ⟨by decide, by rw [← Option.some.inj hy]; simp⟩
            | 1, hy => exact ⟨by decide, (Option.some.inj hy).symm⟩
            | j + 2, hy => simp at hy
          refine ⟨rfl, _, rfl, _, rfl, _, _, rfl, rfl, _, rfl, ?_⟩
          by_cases hc : z + (j : Int) ≤ c
          · refine ifT (decide_eq_true hc) ⟨_, rfl, _, S', n', rfl, eS', ?_, ?_⟩
            · show n' + 1 < 4096
              omega
            · refine ⟨b2.trans but_upd, _, _, upd_same, ?_, fun k => ?_⟩
              · split <;> omega
              · rw [Bool.or_eq_true, hS', decide_eq_true_iff]
                constructor
                · rintro (⟨k1, (h | ⟨m, m1, m2⟩)⟩ | h)
                  · exact ⟨k1, .inl h⟩
                  · exact ⟨k1, .inr ⟨m, by omega, m2⟩⟩
                  · exact ⟨by omega, .inr ⟨j, by omega, h⟩⟩
                · rintro ⟨k1, (h | ⟨m, m1, m2⟩)⟩
                  · exact .inl ⟨k1, .inl h⟩
                  · by_cases e : m = j
                    · subst e
                      exact .inr m2
                    · exact .inl ⟨k1, .inr ⟨m, by omega, m2⟩⟩
          · refine ifF (decide_eq_false hc) ⟨b2, S', n', eS', by omega, fun k => ?_⟩
            rw [hS']
            constructor
            · rintro ⟨k1, (h | ⟨m, m1, m2⟩)⟩
              · exact ⟨k1, .inl h⟩
              · exact ⟨k1, .inr ⟨m, by omega, m2⟩⟩
            · rintro ⟨k1, (h | ⟨m, m1, m2⟩)⟩
              · exact ⟨k1, .inl h⟩
              · refine ⟨k1, .inr ⟨m, ?_, m2⟩⟩
                by_cases e : m = j
                · subst e
                  omega
                · omega
        · rintro G' ⟨b2, S', n', eS', hn', hS'⟩
          refine ⟨(b1.trans (But.of (same_upd ht))).trans b2, S', n', eS', hn', fun k => ?_⟩
          rw [hS', take_more hz]
          constructor
          · rintro ⟨k1, (⟨y, y1, y2⟩ | ⟨m, m1, m2⟩)⟩
            · exact ⟨k1, y, List.mem_append_left _ y1, y2⟩
            · exact ⟨k1, z, List.mem_append_right _ List.mem_cons_self, by have : m < 2 := m1; omega⟩
          · rintro ⟨k1, y, y1, y2⟩
            rcases List.mem_append.mp y1 with h | h
            · exact ⟨k1, .inl ⟨y, h, y2⟩⟩
            · rw [List.mem_singleton.mp h] at y2
              rcases y2 with h | h
              · exact ⟨k1, .inr ⟨0, by show 0 < 2; decide, by rw [h]; simp⟩⟩
              · exact ⟨k1, .inr ⟨1, by show 1 < 2; decide, h⟩⟩
      · rintro G ⟨b1, S, n, eS, hn, hS⟩
        refine ⟨D, S, n, rfl, eS, ?_, fun ns l hs hm hl hfree => ?_⟩
        · have : n ≤ 2 * 5 := hn
          omega
        · refine k l ns _ (fun x o e => ?_) upd_same hs fun y => ?_
          · have e' := sOf _ s1 x o e
            exact (same_upd hfree) _ _ (b1 _ _ (ne_of_none e' hD) e')
          · rw [hm, hS]
            exact Iff.rfl
/-- the steps of a plan, for reading -/
theorem scFirst : FnScope ["plan", "other", "chairs", "start"] ["plan", "other", "chairs"] (defScope sFirst) := ⟨rfl, rfl, rfl, by decide +kernel, rfl, by decide +kernel, by decide +kernel⟩
theorem ok_first {f f1 f2 f3 : Addr} {fd fdS : FuncData} (F : Fun K "first_difference" "first_difference" sFirst f fd) (T : Txt K mg C TU pS gS mc) (G : Gs P w K mg base C gS fdS) (DH : Dn P w K mg base 3 "check_house" f1 (spChkHouse C)) (DT : Dn P w K mg base 5 "telling_starts" f2 (spTell C)) (DA : Dn P w K mg base 2 "after_steps" f3 (spASteps K)) :
    FnOk P w K mg base CX0 6 f fd ["plan", "other", "chairs"] (spFirst C) := by
  refine F.ok scFirst (fun vs H Q E h => ?_) (fun cdv A outer s H vs Q E hr h => ?_)
  · obtain ⟨p, q, a, b, c, rfl, _⟩ := h
    rfl
  · obtain ⟨p, q, a, b, c, rfl, hp, hq, c0, c1, oa, ob, na, nb, k⟩ := h
    have r3 : Room 3 _ := hr.mono (by decide)
    have r2 : Room 2 _ := hr.mono (by decide)
    refine ⟨_, pss_cons (ps_expr (pe_callR DH.ok r3 rfl DH.at_ DH.kp pass0 (pa_cons (pv 0) (pa_cons (pv 2) pa_nil))))
      (pss_cons (ps_expr (pe_callR DH.ok r3 rfl DH.at_ DH.kp pass0 (pa_cons (pv 1) (pa_cons (pv 2) pa_nil))))
      (pss_cons (ps_for PassesOwn.never rfl (pi_list (pe_callR DT.ok hr rfl DT.at_ DT.kp pass0 (pa_cons (pv 0) (pa_cons (pv 1) (pa_cons (pv 2) pa_nil))))) (pg_name (i := 3) scFirst.nd rfl (.inl rfl))
        (pss_one (ps_if (pt_cmpR (op_neD hr.units) (pe_callR DA.ok r2 rfl DA.at_ DA.kp pass0 (pa_cons (pe_prop (pv 0) T.cl T.pr G.ok r2 G.b .nil pass0 rfl) (pa_cons (pv 2) (pa_cons (pv 3) pa_nil))))
            (pe_callR DA.ok r2 rfl DA.at_ DA.kp pass0 (pa_cons (pe_prop (pv 1) T.cl T.pr G.ok r2 G.b .nil pass0 rfl) (pa_cons (pv 2) (pa_cons (pv 3) pa_nil)))) (nomark _))
          (pss_one (ps_ret (pv 3))) pss_nil)))
      (pss_one (ps_ret pe_non)))), ?_⟩
    refine ⟨_, rfl, _, rfl, p, c, a, rfl, hp, c0, c1, oa, na, fun H1 s1 => ?_⟩
    refine ⟨_, rfl, _, rfl, q, c, b, rfl, hq.same s1, c0, c1, ob, nb, fun H2 s2 => ?_⟩
    have s02 := s1.trans s2
    refine ⟨_, rfl, _, rfl, _, rfl, p, q, a, b, c, rfl, hp.same s02, hq.same s02, c0, c1, oa, ob, na, nb, fun l ns H3 s3 hl hs hm => ?_⟩
    have s03 := s02.trans s3
    refine ⟨l, rfl, ⟨_, SqL.of hl⟩, for_list (K := K) (a := l) (xs := ns.map V.int) (fun i σ H' => ∃ (x : Option V), σ = [some (.ref p), some (.ref q), some (.int c), x] ∧ Same H3 H' ∧ ∀ y ∈ ns.take i, 0 ≤ y → outF c a y = outF c b y)
      ⟨none, rfl, Same.refl _, fun y hy => by simp at hy⟩ (fun i σ H' _ ⟨_, _, s4, _⟩ => SqL.of (s4 _ _ hl)) ?_ ?_⟩
    · rintro i v σ H4 hi ⟨x, rfl, s4, hx⟩
      rw [List.getElem?_map] at hi
      obtain ⟨z, hz, rfl⟩ : ∃ z, ns[i]? = some z ∧ v = V.int z := by
        cases e : ns[i]? with
        | none =>
          rw [e] at hi
          cases hi
        | some z =>
          rw [e] at hi
          exact ⟨z, rfl, (Option.some.inj hi).symm⟩
      have s04 := s03.trans s4
      obtain ⟨dx, tp, ws, e1, e2, e2', e3⟩ := (hp.same s04).tup (K := K)
      refine ⟨_, rfl, p, dx, _, rfl, e1, p, dx, _, _, rfl, e1, lk_self, _, rfl, _, rfl, tp, ws, a, c, z, rfl, e2, e2', e3, fun q1 H5 s5 h5 => ?_⟩
      obtain ⟨dy, tq, zs, g1, g2, g2', g3⟩ := ((hq.same s04).same s5).tup (K := K)
      refine ⟨_, rfl, q, dy, _, rfl, g1, q, dy, _, _, rfl, g1, lk_self, _, rfl, _, rfl, tq, zs, b, c, z, rfl, g2, g2', g3, fun q2 H6 s6 h6 => ?_⟩
      refine ⟨.tuple [.int (outF c a z).1, .int (outF c a z).2], .tuple [.int (outF c b z).1, .int (outF c b z).2], .tup (SqT.of (s6 _ _ h5)) (.cons (.int _) (.cons (.int _) .nil)), .tup (SqT.of h6) (.cons (.int _) (.cons (.int _) .nil)), shaped_ints _ _, shaped_ints _ _, _, rfl, ?_⟩
      rw [eqv_ints]
      by_cases hd : outF c a z = outF c b z
      · rw [decide_eq_true hd]
        refine iteF ⟨_, rfl, (s4.trans s5).trans s6, fun y hy y0 => ?_⟩
        rw [take_more hz] at hy
        rcases List.mem_append.mp hy with h | h
        · exact hx y h y0
        · rw [List.mem_singleton.mp h]
          exact hd
      · rw [decide_eq_false hd]
        have hT := (hm z).mp (List.mem_of_getElem? hz)
        have z0 : 0 ≤ z := by
          obtain ⟨_, y, hy, hzy⟩ := hT
          have la := (smSteps_says (Int.le_refl 0) c0 a oa).1
          have lb := (smSteps_says (Int.le_refl 0) c0 b ob).1
          have l1 := la.l0
          have l2 := la.lh
          have l3 := lb.l0
          have l4 := lb.lh
          simp only [boundsF, List.mem_cons, List.not_mem_nil, or_false] at hy
          omega
        refine iteT ⟨_, rfl, ?_⟩
        exact k (some z) _ (s04.trans (s5.trans s6)) (first_some oa ob z0 hT.1 hd fun y y0 y1 hy => hx y (mem_before hs hz ((hm y).mpr hy) y1) y0)
    · rintro σ H4 ⟨x, rfl, s4, hx⟩
      rw [List.length_map, List.take_length] at hx
      exact k none _ (s03.trans s4) (first_none oa ob fun y y0 y1 hy => hx y ((hm y).mpr hy) y0)
end
end Cc

/-! An own error class called with a text that is made on the way. -/
namespace Cc
open PySem PySem.Spec PyProof.Rows L2
section
variable {X : Cx} {C : Addr} {bmB : List Value} {B newId initId : String} {x : Str} {e : Expr} {ta : TA} {p pos : Pos}
theorem pmk_any (F : ExcBaseFacts B newId initId bmB) (q : PySem.W.excIn X.K C bmB newId = true) (gC : X.mg x = some (.ref C)) (kC : PySem.W.keepIn X.K (.ref C) = true) (r : Raises X (.ref C)) (hg : Gl X x) (ha : PA X [e] ta)
    (hs : starEach [e] X.env = (false, eval e X.env) :: starEach [] X.env := by rfl) (hp : (backTo pos (starEach [] X.env)).any (·.1) = false := by rfl) (hdb : (x == ("__debug__" : Str)) = false := by decide) :
    PMk X (.Call (.Name x p) [e] [] pos) (fun σ H Q => ta σ H fun vs H1 => (∃ v, vs = [v]) ∧ Q (.ref C) none H1) := by
  intro pins s σ H Q I h
  refine wpAny_Call_Name_kw (ld_glob I hg gC ?_ hdb); refine PySem.W.callWith_K (h₀ := X.base) I.ok.mod.kin kC (thn (ha.run pos pins s σ H _ I h) fun us z1 ⟨vs, H1, I1, r1, ⟨v, ev⟩, q1⟩ => ⟨I1.kIn, ?_⟩) hs hp
  subst ev
  obtain ⟨u, rfl, ru⟩ := r1.one
  show wpAny _ _ (call (.ref C) [u]) _ _ _; obtain ⟨bm, N, nm, qn, bs, hd, sn, sub, ab, col, dd, k0, k1, k2, k3, k5, mN, hC, hN, hni, T⟩ := exc_obj I1.kIn q
  exact wpAny_call_exc_subT F T hC hN hni (fun h' a hm => mk_of I1 hm r q1 (I1.hok.gone hm.new)) (by show 1 ≤ sizeLine; decide)
end
/-- what is asked of an own error class that the program raises -/
structure Err (K : PySem.W.Frag) (mg : Str → Option Value) (x : Str) (C : Addr) : Prop where
  at_ : mg x = some (.ref C)
  (kp : PySem.W.keepIn K (.ref C) = true)
  ex : ∃ bmB B newId initId, ExcBaseFacts B newId initId bmB ∧ PySem.W.excIn K C bmB newId = true
  sub : PySem.W.subIn K (.ref C) (.type "BaseException") = some true
  ty : PySem.W.typeIn K (.ref C) = some (.type "type")
theorem log_small {i : Int} (h0 : -(2 ^ 64) < i) (h1 : i < 2 ^ 64) : i.natAbs.log2 < 1920 := by
  by_cases q : i.natAbs = 0
  · rw [q]
    decide
  · have h : i.natAbs < 2 ^ 64 := by omega
    exact Nat.lt_trans ((Nat.log2_lt q).mpr h) (by decide)
/-- a def of the module that may raise -/
structure DnX (P : Program) (w : World) (K : PySem.W.Frag) (mg : Str → Option Value) (base : Heap) (k : Nat) (x : Str) (f : Addr) (sp : Sp) : Prop where
  at_ : mg x = some (.ref f)
  kp : PySem.W.keepIn K (Value.ref f) = true
  ok : FnR P w K mg base (L2.CX P w) k f sp
/-- a block that is not reached -/
theorem pss_never {X : Cx} {rest : List Stmt} : PSs X rest (fun _ _ _ => False) := ⟨fun _ _ _ _ _ _ h => h.elim⟩
end Cc

namespace Cc
open PySem PySem.Spec PyProof.Rows L2
/-- check_number, that may raise -/
def spNumX (CN : Addr) : Sp := fun vs H Q E => ∃ (v a b : Int), vs = [.int v, .int a, .int b] ∧ (-(2 ^ 64) < a ∧ a < 2 ^ 64) ∧ (-(2 ^ 64) < b ∧ b < 2 ^ 64) ∧ (a ≤ v ∧ v ≤ b → Q .non H) ∧ (¬ (a ≤ v ∧ v ≤ b) → E (.ref CN) none H)
theorem text_len {i : Int} (h0 : -(2 ^ 64) < i) (h1 : i < 2 ^ 64) : (Str.ofString (toString i)).length ≤ 2000 := by
  have e := int_text_length_le (k := 1920) (by decide) (log_small h0 h1)
  rw [PySem.ofString_length]
  omega
section
variable {P : Program} {w : World} {K : PySem.W.Frag} {mg : Str → Option Value} {base : Heap} {C TU pS gS : Addr} {mc : Value}
theorem ok_numx {f fN CN : Addr} {fd : FuncData} (F : Fun K "check_number" "check_number" sChkNum f fd) (N : Dn P w K mg base 1 "is_number" fN spIsNum) (X : Err K mg "InvalidNumber" CN) : FnOk P w K mg base (L2.CX P w) 2 f fd ["value", "least", "most"] (spNumX CN) := by
  refine F.okX scChkNum (fun vs H Q E h => ?_) (fun cdv A outer s H vs Q E hr h => ?_)
  · obtain ⟨v, a, b, rfl, _⟩ := h
    rfl
  · obtain ⟨v, a, b, rfl, ha, hb, k1, k2⟩ := h
    obtain ⟨bmB, Bn, newId, initId, XF, Xq⟩ := X.ex
    refine ⟨_, pss_one (ps_if (pt_not (pt_val (pe_callR N.ok hr rfl N.at_ N.kp pass0 (pa_cons (pv 0) (pa_cons (pv 1) (pa_cons (pv 2) pa_nil))))))
      (pss_one (ps_raise rfl (takes_of rfl rfl rfl rfl) (pmk_any XF Xq X.at_ X.kp (raises_own X.sub X.ty) rfl (pa_cons (pe_joined (.cons pe_str (.cons (pe_fmt (pv 1)) (.cons pe_str (.cons (pe_fmt (pv 2)) .nil))))) pa_nil)))) pss_nil), ?_⟩
    refine ⟨_, rfl, _, rfl, _, rfl, v, a, b, rfl, _, rfl, ?_⟩
    by_cases c : a ≤ v ∧ v ≤ b
    · rw [decide_eq_true c]
      exact iteF (k1 c)
    · rw [decide_eq_false c]
      have l1 := text_len ha.1 ha.2
      have l2 := text_len hb.1 hb.2
      have l3 : (Str.ofString "a number is not from ").length ≤ 100 := by decide +kernel
      have l4 : (Str.ofString " to ").length ≤ 100 := by decide +kernel
      have l5 : Str.empty.length ≤ 100 := by decide +kernel
      refine iteT ⟨_, rfl, ?_, ⟨_, rfl, .inr ⟨a, rfl, log_small ha.1 ha.2, _, rfl, ?_, _, rfl, ?_, ⟨_, rfl, .inr ⟨b, rfl, log_small hb.1 hb.2, _, rfl, ?_, ⟨_, rfl⟩, k2 c⟩⟩⟩⟩⟩
      all_goals simp only [Str.length_append, sizeLine_eq]
      all_goals omega
end
end Cc

/-! A class over ValueError called with nothing but one keyword: BaseException.__new__ takes it and drops it, then the class's own __init__ has it. -/
namespace PySem
namespace EiX
open Builtin Builtin.ObjectAttr PySem.HandSPX
/-- the written parts of a class over ValueError -/
structure Parts where
  (nm q : Str)
  ns : Addr
  (bs bm sub : List Value)
  hd : Bool
  sn : List Str
  ab : Bool
  col : Option Bool
  dd : Option Addr
  (k0 k1 k2 k3 k5 : Option Value)
/-- at C: that class -/
abbrev Parts.at (p : Parts) (h : Heap) (C : Addr) : Prop := h.get? C = some (excClassObj p.nm p.q C p.ns p.bs p.bm p.hd p.sn p.sub p.ab p.col p.dd p.k0 p.k1 p.k2 p.k3 p.k5 "ValueError.__new__")
theorem Parts.has {p : Parts} (ve : refsVE p.bm = true) {C : Addr} {t : String} {b : Bool} (e : veTail.contains (.type t) = b) : (Value.ref C :: p.bm).contains (.type t) = b := by
  rw [List.contains_cons, refsVE_contains t p.bm ve, e]
  cases b <;> rfl
section
variable {prog : Program} {w : World} {M : Model} {A : Around} {Er : Value → Shared → Prop} {R : Result → Shared → Prop} {h : Heap} {gn : Array GenState} {dw : Drawn} {tn : Nat} {sys : OsState} {C fI : Addr} {p : Parts} {fld : Str} {v : Value}
/-- the row of __new__ lets a keyword pass -/
theorem new_lets (ve : refsVE p.bm = true) (cl : p.at h C) {Q : Unit → Shared → Prop} (q : Q () ⟨h, gn, dw, tn, sys⟩) : wpAny M A (checkBuiltinCall "ValueError.__new__" ⟨[.ref C], [(fld, v)]⟩) Q Er ⟨h, gn, dw, tn, sys⟩ := by
  have over : (Value.ref C :: p.bm).contains (.type "ValueError") = true := Parts.has ve (by decide +kernel)
  have star := F.excBase_ValueError.noStar
  simp only [checkBuiltinCall, F.excBase_ValueError.newKind, F.excBase_ValueError.newSplit, F.excBase_ValueError.newRow]
  repeat (first
    | refine wpAny_loadPart_at cl ?_
    | (refine wpAny_isSubtype_exc cl ?_; rw [over])
    | refine wpAny_staticBase_exc cl ?_
    | refine wpAny_madeBy_exc cl ?_
    | simp only [bne_self_eq_false, Bool.false_eq_true, if_false]
    | wp_step)
  exact q
/-- so does type.__call__'s -/
theorem call_lets (cl : p.at h C) {Q : Unit → Shared → Prop} (q : Q () ⟨h, gn, dw, tn, sys⟩) : wpAny M A (checkBuiltinCall "type.__call__" ⟨[.ref C], [(fld, v)]⟩) Q Er ⟨h, gn, dw, tn, sys⟩ := by
  have under := tc_sub
  have ty : (⟨h, gn, dw, tn, sys⟩ : Shared).TypeIs (.ref C) "type" := ⟨_, cl, rfl⟩
  simp only [checkBuiltinCall, tc_split, tc_kind]
  repeat (any_goals (first
    | assumption
    | with_reducible refine wpAny_loadPart_at cl ?_
    | with_reducible refine wpAny_onRaise ?_
    | with_reducible refine wpAny_map ?_
    | wp_step))
/-- the heap with the empty args and the new exception -/
abbrev fresh2 (h : Heap) (C : Addr) : Heap := (h.push (W.kdv_tup [])).push (excO C h.objs.size)
/-- ValueError.__new__(C, fld = v) -/
theorem new_run (ve : refsVE p.bm = true) (cl : p.at h C) (q : R (.ok (.ret (.ref (h.objs.size + 1)))) ⟨fresh2 h C, gn, dw, tn, sys⟩) : codeAny (model prog w) A (.builtin "ValueError.__new__" ⟨[.ref C], [(fld, v)]⟩) R ⟨h, gn, dw, tn, sys⟩ := by
  have ends := F.excBase_ValueError.ends
  have few : ([] : List Value).length ≤ sizeLine := Nat.zero_le _
  have c1 : (Value.ref C :: p.bm).contains (.type "ValueError") = true := Parts.has ve (by decide +kernel)
  have c2 : (Value.ref C :: p.bm).contains (.type "AttributeError") = false := Parts.has ve (by decide +kernel)
  have c3 : (Value.ref C :: p.bm).contains (.type "NameError") = false := Parts.has ve (by decide +kernel)
  refine codeAny_builtinAt F.excBase_ValueError.entry ?_; unfold Builtin.«BaseException.__new__»; refine wpAt_bind ?_
  show wpAt _ _ _ (stack >>= fun _ => _) _ _ _
  refine wpAt_bind (wpAt_stack fun _ below => wpAt_of_wpAny ?_); wp_walk
  refine wpAt_of_wpAny ?_; rw [F.excBase_ValueError.owner]
  repeat (first
    | with_reducible refine wpAny_madeHere_exc F.excBase_ValueError.canon cl ?_
    | with_reducible refine wpAny_loadPart_at cl ?_
    | (with_reducible refine wpAny_isSubtype_exc cl ?_; first | rw [c1] | rw [c2] | rw [c3])
    | wp_step)
  show R _ _; rw [Heap.size_push]; exact q
/-- what __init__ gave back -/
def Given (Q : Fin → Shared → Prop) (Er : Value → Shared → Prop) (x : Addr) : Result → Shared → Prop := fun r s' => match r with
  | .ok (.ret u) => u = .none ∧ Q (.done (.ret (.ref x))) s'
  | .ok _ => False
  | .error e => Er e s'
theorem type_run (ve : refsVE p.bm = true) (cl : p.at h C) (li : W.Looks (model prog w) h (typeLookup (.ref C) "__init__") (some (.ref fI))) (lb : ∀ x, W.Looks (model prog w) h (bindSpecial (.ref fI) x) (.ref fI, [x])) {Q : Fin → Shared → Prop}
    (q : codeAny (model prog w) A (.call (.ref fI) ⟨[.ref (h.objs.size + 1)], [(fld, v)]⟩) (Given Q Er (h.objs.size + 1)) ⟨fresh2 h C, gn, dw, tn, sys⟩) :
    wpAny (model prog w) A (Builtin.«type.__call__» ⟨[.ref C], [(fld, v)]⟩) Q Er ⟨h, gn, dw, tn, sys⟩ := by
  repeat (first | with_reducible refine wpAny_loadPart_at cl ?_ | with_reducible refine wpAny_madeBy_exc cl ?_ | wp_step)
  refine codeAny_call_builtin_code (Code.quiet_builtin _ F.excBase_ValueError.quiet) (new_lets ve cl (new_run ve cl ?_))
  show wpAny _ _ _ _ _ _
  have up : ∀ b o, h.get? b = some o → (fresh2 h C).get? b = some o := fun b o e => Heap.get?_push_of_some _ (Heap.get?_push_of_some _ e)
  have cl2 : p.at (fresh2 h C) C := up _ _ cl
  have new2 : (fresh2 h C).get? (h.objs.size + 1) = some (excO C h.objs.size) := by heap_get
  have own : (Value.ref C :: p.bm).contains (.ref C) = true := by simp
  have li2 := li.keeps up; have lb2 := (lb (.ref (h.objs.size + 1))).keeps up
  unfold isInstance
  repeat (first | with_reducible refine wpAny_loadPart_at new2 ?_ | (with_reducible refine wpAny_isSubtype_exc cl2 ?_; rw [own]) | wp_step)
  show wpAny _ _ (typeLookup (.ref C) _) _ _ _; refine li2.at (wpAny_holding (wpAny_bind (lb2.at (wpAny_bind (wpAny_call (codeAny_mono q fun r s' z => ?_))))))
  match r, z with
  | .error _, z => exact z
  | .ok (.ret _), ⟨e, z⟩ =>
    subst e
    first | exact wpAny_pure (wpAny_pure z) | (wp_walk; exact z)
/-- C(fld = v) -/
theorem made_run (ve : refsVE p.bm = true) (cl : p.at h C) (li : W.Looks (model prog w) h (typeLookup (.ref C) "__init__") (some (.ref fI))) (lb : ∀ x, W.Looks (model prog w) h (bindSpecial (.ref fI) x) (.ref fI, [x]))
    (q : codeAny (model prog w) (A.under (.builtin "type.__call__" ⟨[.ref C], [(fld, v)]⟩)) (.call (.ref fI) ⟨[.ref (h.objs.size + 1)], [(fld, v)]⟩) (W.InitBack (h.objs.size + 1) R) ⟨fresh2 h C, gn, dw, tn, sys⟩) :
    codeAny (model prog w) A (.call (.ref C) ⟨[], [(fld, v)]⟩) R ⟨h, gn, dw, tn, sys⟩ := by
  have l1 := tc_lookup; have l2 := tc_bind (.ref C)
  have ty : (⟨h, gn, dw, tn, sys⟩ : Shared).TypeIs (.ref C) "type" := ⟨_, cl, rfl⟩
  refine codeAny_of_tree (show wpAny _ _ (callAny (.ref C) _) _ _ _ from ?_)
  repeat (any_goals (first | assumption | with_reducible refine wpAny_loadPart_at cl ?_ | wp_step))
  refine ⟨rfl, codeAny_call_builtin_at (Code.quiet_builtin _ (by decide +kernel)) entry_typeCall (call_lets cl (type_run ve cl li lb (codeAny_mono q fun r s' z => ?_)))⟩
  match r, z with
  | .error _, z => exact z
  | .ok (.ret _), z => exact z
end
end EiX
end PySem

/-! The __init__ of an own error: super().__init__(f'.. {index} ..'); self.index = index. -/
namespace PySem
namespace EiX
open PySem.W PySem.Calls PyProof.Rows PySem.HandSPX
def iA (p1 p2 : Pos) : Arguments := { posonlyargs := [], args := [{ arg := "self", annotation := none, pos := p1 }], vararg := none, kwonlyargs := [{ arg := "index", annotation := none, pos := p2 }], kw_defaults := [none], kwarg := none, defaults := [] }
def iB (t1 t2 : Str) (a1 a2 a3 a4 a5 a6 a7 a8 a9 a10 b1 b2 b3 b4 : Pos) : List Stmt := [
  .Expr (.Call (.Attribute (.Call (.Name "super" a1) [] [] a2) "__init__" a3) [.JoinedStr [.Constant (.str t1) 0 a4, .FormattedValue (.Name "index" a5) (-1) none a6, .Constant (.str t2) 0 a7] a8] [] a9) a10,
  .Assign [.Attribute (.Name "self" b1) "index" b2] (.Name "index" b3) b4]
def iS : Scope := { kind := .function, names := [(PySem.Str.ofString "self", .local), (PySem.Str.ofString "index", .local), (PySem.Str.ofString "__class__", .free), (PySem.Str.ofString "super", .globalImplicit)], isGenerator := false, isCoroutine := false, more := [] }
/-- what is asked of such a class, at C, and of its __init__, at fI -/
structure EiTxt (P : Program) (K : Frag) (mg : Str → Option Value) (x : Str) (C fI : Addr) : Prop where
  at_ : mg x = some (.ref C)
  (kp : keepIn K (.ref C) = true)
  cls : ∃ nm q N bs bm sn sub ab col dd k0 k1 k2 k3 k5, K.lookup C = some (excClassObj nm q C N bs bm true sn sub ab col dd k0 k1 k2 k3 k5 "ValueError.__new__") ∧ refsVE bm = true
  sa : findIn K (.ref C) "__setattr__" = some (some (.builtin "object.__setattr__"))
  noN : findIn K (.ref C) "index" = some none
  iC : findIn K (.ref C) "__init__" = some (some (.ref fI))
  tC : typeIn K (.ref fI) = some (.type "function")
  sub : subIn K (.ref C) (.type "BaseException") = some true
  ty : typeIn K (.ref C) = some (.type "type")
  sve : subIn K (.ref C) (.type "ValueError") = some true
  sup : ks_superIn K C C "__init__" = some (some (.builtin "ValueError.__init__"))
  opq : nsIn K cStatics "thirdparty.any" = some none
  nsu : mg "super" = none
  htop : (P.main.scope.names.lookup ("super" : Str)).isSome = false
  fn : ∃ (cc cda : Addr) (oc : Value) (od : Option Addr) (kV doc pm : Value) (an : Option Addr) (ct : Value) (osl : Array (Option Value)) (qual t1 t2 : Str) (p1 p2 a1 a2 a3 a4 a5 a6 a7 a8 a9 a10 b1 b2 b3 b4 : Pos) (cl ccl : Value) (cld cdd : Option Addr) (csl ccs : Array (Option Value)) (vs : Array Value) (file : Str) (tf : Tok),
    K.lookup fI = some ⟨oc, od, .func (ksFn "__init__" qual (iA p1 p2) (iB t1 t2 a1 a2 a3 a4 a5 a6 a7 a8 a9 a10 b1 b2 b3 b4) iS .none kV doc pm an (.ref cda) ct cc), osl⟩ ∧ codeIn K (.ref cda) qual = true ∧
    K.lookup cc = some ⟨cl, cld, .cell (some (.ref C)), csl⟩ ∧ K.lookup cda = some ⟨ccl, cdd, .fields vs, ccs⟩ ∧ vs[2]? = some (.str file tf) ∧ ((P.main.file : Str) == file) = true ∧ t1.length ≤ 1000 ∧ t2.length ≤ 1000 ∧ (a3.endLine == a9.line) = true
/-- what __init__ leaves of a fresh exception at x -/
structure InitEnd (h h' : Heap) (x C dx : Addr) (v : Value) : Prop where
  keep : ∀ b o, b ≠ x → h.get? b = some o → h'.get? b = some o
  obj : ∃ t1 : Addr, h'.get? x = some { cls := .ref C, dict := some dx, data := .fields #[.ref t1, .none, .none, .none, .bool false, .none] }
  dbig : h.objs.size ≤ dx
  dne : dx ≠ x
  ns : h'.Ns1 dx (fun y => if y = "index" then some v else none)
theorem ldC {M : Model} {s : Shared} {env : Env} {m : Str → Option Value} {x : Str} {pos : Pos} {v : Value} {Q : Value → Shared → Prop} {A : Around} {E : Value → Shared → Prop} (hn : s.heap.Ns env.locals m) (hv : m x = some v) (h : Q v s)
    (hk : env.scope.kind = .function := by rfl) (hl : env.kindOf x = some .local := by rfl) (hd : (x == ("__debug__" : Str)) = false := by decide) :
    wpAny M A (eval (.Name x pos) env) Q E s := wpAny_Name (wpAny_loadName_local hk hl hn hv h) hd
/-- super().__init__ bound to the new exception, called -/
theorem call_mw {prog : Program} {w : World} {A : Around} {Er : Value → Shared → Prop} {h : Heap} {gn : Array GenState} {dw : Drawn} {tn : Nat} {sys : OsState} {C u e t0 : Addr} {p : Parts} {rest : List Value} {Q : Value → Shared → Prop}
    (cl : p.at h C) (he : h.get? e = some (excO C t0)) (hu : h.get? u = some (kxs_mw "ValueError.__init__" e)) (hrest : rest.length ≤ sizeLine)
    (hq : ∀ h' t1, (∀ b o, b ≠ e → h.get? b = some o → h'.get? b = some o) → h'.get? e = some (excO C t1) → Q .none ⟨h', gn, dw, tn, sys⟩) :
    wpAny (model prog w) A (call (.ref u) rest) Q Er ⟨h, gn, dw, tn, sys⟩ := by
  have isW : (Value.type "method-wrapper" == Value.type "method" || Value.type "method-wrapper" == Value.type "builtin_function_or_method" || Value.type "method-wrapper" == Value.type "method-wrapper") = true := by decide
  refine wpAny_call (codeAny_of_tree (show wpAny _ A.in1 (callAny (.ref u) ⟨rest, []⟩) _ _ _ from ?_))
  simp only [callAny]; refine wpAny_bind (wpAny_load hu ?_); simp only [kxs_mw, isW, if_true]
  refine KFB.if_so (by decide) (wpAny_bind (check_bound_init F.excBase_ValueError.toExcCallFacts cl he rfl (wpAny_bind (wpAny_pure (wpAny_pure ⟨plainId_quiet F.excBase_ValueError.init.plain _, codeAny_builtin F.excBase_ValueError.initEntry ?_⟩)))))
  exact exc_init_tree (cls := .ref C) (t0 := t0) (dv := none) (c2 := .none) (c3 := .none) (b4 := .bool false) he hrest fun h' k e' t' => hq h' _ k e'
theorem mc_eq {ob : Expr} {nme : Str} {vs : List Expr} {a3 a8 a9 : Pos} {env : Env} (hl : (a3.endLine == a9.line) = true) : eval (.Call (.Attribute ob nme a3) [.JoinedStr vs a8] [] a9) env = (do
    let ov ← attributeBase ob nme env (eval ob env)
    standAt a3.atName
    let (f, first) ← holding [ov] (getMethod ov nme (do return (← importBound ob env).getD true))
    callWith a9 f first (backTo a9 (starEach [.JoinedStr vs a8] env)) []) := by
  rw [arm_eval_Call]
  have e : methodCallForm (([Expr.JoinedStr vs a8] : List Expr).length + ([] : List Keyword).length) (backTo a9 (starEach [.JoinedStr vs a8] env)) (backToKw a9 (keywordEach [] env)) = true := by rfl
  unfold methodCall
  rw [e]
  unfold calleeOf methodCallPos
  rw [hl]
  rfl
theorem log_small {i : Int} (h0 : -(2 ^ 64) < i) (h1 : i < 2 ^ 64) : i.natAbs.log2 < 1920 := Cc.log_small h0 h1
theorem text_bound {i : Int} (h0 : -(2 ^ 64) < i) (h1 : i < 2 ^ 64) : (Str.ofString (toString i)).length ≤ 2000 := by
  have e := int_text_length_le (k := 1920) (by decide) (log_small h0 h1)
  rw [PySem.ofString_length]
  omega
theorem empty_len : Str.empty.length = 0 := by decide +kernel
section
variable {prog : Program} {w : World} {A : Around} {R : Result → Shared → Prop} {s : Shared} {K : Frag} {mg mb : Str → Option Value} {X : Str} {C fI : Addr}
theorem idx_init (T : EiTxt prog K mg X C fI) {x t0 : Addr} {i : Int} {tk0 : Tok} (KX : K.In s.heap) (hlim : s.heap.NoLimit) (hg : s.heap.Ns mainGlobals mg) (hb : s.heap.Ns builtinsNs mb) (hsu : mb "super" = some (.type "super"))
    (hx : s.heap.get? x = some (excO C t0)) (hnx : K.lookup x = none) (hroom : A.depth < recursionLimit) (hi : -(2 ^ 64) < i ∧ i < 2 ^ 64)
    (hq : ∀ h' tk dx, InitEnd s.heap h' x C dx (.int i tk0) → R (.ok (.ret .none)) { s with heap := h', toks := tk }) :
    codeAny (model prog w) A (.call (.ref fI) ⟨[.ref x], [("index", .int i tk0)]⟩) R s := by
  obtain ⟨cc, cda, oc, od, kV, doc, pm, an, ct, osl, qual, t1, t2, p1, p2, a1, a2, a3, a4, a5, a6, a7, a8, a9, a10, b1, b2, b3, b4, cl, ccl, cld, cdd, csl, ccs, vs, file, tf, ho, hcd, hcc, hcda, hvs, hfile, l1, l2, hln⟩ := T.fn
  obtain ⟨nm, q, N, bs, bm, sn, sub, ab, col, dd, k0, k1, k2, k3, k5, hC, hbm⟩ := T.cls
  have hcl : clsIn K C = some { name := nm, bases := bs, mro := .ref C :: bm, ns := N, qualname := q, hasDict := true, slotNames := sn, subclasses := sub, abstract := ab, collection := col, hasDel := false } := by unfold clsIn; rw [hC] <;> rfl
  have hmro : mroIn K C (.ref C) = some true := by
    unfold mroIn
    rw [hcl, Option.bind_some, if_neg (show ¬ (List.isEmpty (Value.ref C :: bm) = true) from Bool.false_ne_true)]
    simp
  have hxC : x ≠ C := fun z => by rw [z, hC] at hnx; cases hnx
  refine ks_codeAny_call_defAt (fd := ksFn "__init__" qual (iA p1 p2) (iB t1 t2 a1 a2 a3 a4 a5 a6 a7 a8 a9 a10 b1 b2 b3 b4) iS .none kV doc pm an (.ref cda) ct cc) (body := iB t1 t2 a1 a2 a3 a4 a5 a6 a7 a8 a9 a10 b1 b2 b3 b4) (binds := [("self", .ref x), ("index", .int i tk0)])
    hroom (KX _ _ ho) rfl hlim (codeRec_of KX hcd) rfl (BindsTo.of_eq (by first | rfl | with_unfolding_all rfl)) (show ∀ y ∈ iS.names, y.2 ≠ .cell by decide) (fun y hy => ?_) (fun h₀ hns hk => ?_)
  · rcases (List.mem_cons.mp hy) with rfl | hy
    · rfl
    · rw [List.mem_singleton.mp hy]
      rfl
  · have KX₀ : K.In h₀ := KX.keeps hk
    have hns' := hns
    have hself : ([("self", .ref x), ("index", .int i tk0)] : List (Str × Value)).reverse.lookup ("self" : Str) = some (Value.ref x) := by first | rfl | with_unfolding_all rfl | kernel_rfl
    have hidx : ([("self", .ref x), ("index", .int i tk0)] : List (Str × Value)).reverse.lookup ("index" : Str) = some (Value.int i tk0) := by first | rfl | with_unfolding_all rfl | kernel_rfl
    refine ks_wpAt_execs_cons (ks_wpAt_Expr_any (ks_wpAt_MethodCall ?_ (mc_eq hln)))
    refine ks_wpAt_super_base (f := fI) (cc := cda) (of := _) (oc := _) (vs := vs) (file := file) (tf := tf) rfl rfl (by decide) rfl (KX₀ _ _ ho) rfl rfl rfl (KX₀ _ _ hcda) rfl hvs hfile T.htop ?_
    refine ks_loadName_global rfl rfl (loadGlobal_builtin (hg.keeps hk) T.nsu (hb.keeps hk) hsu ⟨rfl, ?_⟩)
    refine wpAny_loadName_free rfl rfl rfl ⟨_, KX₀ _ _ hcc, rfl⟩ ?_
    refine wpAny_loadName_local rfl rfl hns hself ?_
    refine ks_wpAny_isType_cls (KX₀ _ _ hC) rfl ⟨rfl, ?_⟩
    refine ks_wpAny_call_super (KX₀ _ _ hC) rfl (hk _ _ hx) rfl (fun c z => nomatch z) (looks_mroIn KX₀ hmro) (fun h₁ e₁ kk₁ => ?_)
    have KX₁ : K.In h₁ := KX₀.keeps kk₁
    have hx₁ : h₁.get? x = some (excO C t0) := kk₁ _ _ (hk _ _ hx)
    have I₁ : InstAt h₁ x (excO C t0) C none := ⟨hx₁, rfl, rfl, trivial⟩
    have hso := e₁
    have hIV : Looks (model prog w) h₁ (isInstance (.ref x) (.type "ValueError")) true := I₁.type.andThen (looks_subIn KX₁ T.sve)
    have hsup : alongIn K "__init__" (((Value.ref C :: bm).dropWhile (· != .ref C)).drop 1) = some (some (.builtin "ValueError.__init__")) := by
      have z := T.sup
      unfold ks_superIn at z
      rw [hcl] at z
      exact z
    refine kxs_getMethod kxs_ValueError hso (looks_opaque KX₁ T.opq) (l₀ := .ref C :: bm) (fun A Q E s k q => wpAny_bind ((looks_clsIn KX₁ hcl) A _ E s k (wpAny_pure q))) rfl KX₁ hsup hIV hxC (by decide) ?_
    have k₂ : ∀ b o, h₁.get? b = some o → (h₁.push (kxs_mw "ValueError.__init__" x)).get? b = some o := fun b o e => Heap.get?_push_of_some _ e
    refine kxs_callWith (i := "ValueError.__init__") (x := x) rfl (evalArgs_plain (spliced_cons ?_))
    have li := text_bound hi.1 hi.2
    refine JoinedStr_many (pos := a8) (joinParts_cons ?_)
    refine wpAny_Constant_str (k := 0) (pos := a4) ⟨?_, joinParts_cons ?_⟩
    · simp only [Str.length_append, sizeLine_eq, empty_len]
      omega
    refine FormattedValue_plain (pos := a6) (ldC (pos := a5) (hns.keeps fun b o e => k₂ b o (kk₁ b o e)) hidx (formatField_int_small (log_small hi.1 hi.2) ⟨?_, joinParts_cons ?_⟩))
    · simp only [Str.length_append, sizeLine_eq, empty_len]
      omega
    refine wpAny_Constant_str (k := 0) (pos := a7) ⟨?_, joinParts_nil ?_ ?_⟩
    · simp only [Str.length_append, sizeLine_eq, empty_len]
      omega
    · refine spliced_nil ⟨Heap.get?_push_at rfl rfl, ?_⟩
      refine call_mw (p := ⟨nm, q, N, bs, bm, sub, true, sn, ab, col, dd, k0, k1, k2, k3, k5⟩) (k₂ _ _ (KX₁ _ _ hC)) (k₂ _ _ hx₁) (Heap.get?_push_at rfl rfl) (by show 1 ≤ sizeLine; rw [sizeLine_eq]; decide) (fun h₃ t3 k₃ hx₃ => ?_)
      have kk : ∀ b o, b ≠ x → s.heap.get? b = some o → h₃.get? b = some o := fun b o hb e => k₃ b o hb (k₂ b o (kk₁ b o (hk b o e)))
      have KX₃ : K.In h₃ := fun b o e => kk b o (fun z => by rw [z] at e; rw [e] at hnx; cases hnx) (KX b o e)
      have hLx : s.heap.objs.size ≠ x := Nat.ne_of_gt (Heap.lt_size hx)
      obtain ⟨oL, esL, epL, hoL, rL⟩ := hns
      have hns₃ : h₃.Ns s.heap.objs.size (fun y => ([("self", .ref x), ("index", .int i tk0)] : List (Str × Value)).reverse.lookup y) := ⟨oL, esL, epL, k₃ _ _ hLx (k₂ _ _ (kk₁ _ _ hoL)), rL⟩
      refine ks_wpAt_execs_cons (wpAt_of_wpAny (plainObj_wpAny_Assign_Attribute ?_))
      refine ldC hns₃ hidx (ldC hns₃ hself ?_)
      refine set_plain KX₃ (ox := excO C t3) (od := none) ⟨hx₃, rfl, rfl, trivial⟩ T.sa ?_
      refine exc_osa KX₃ hx₃ hcl (show refsVE (.ref C :: bm) = true from hbm) rfl T.noN (fun h₄ tk₄ dx k₄ dn dne hx₄ hn₄ => ?_)
      refine wpAt_of_wpAny (wpAny_execs_nil (hq h₄ tk₄ dx ⟨fun b o hb e => k₄ b o hb (kk b o hb e), ⟨_, hx₄⟩, ?_, dne, hn₄⟩))
      have z : s.heap.objs.size < h₃.objs.size := Heap.lt_size (k₃ _ _ hLx (k₂ _ _ (kk₁ _ _ hoL)))
      exact Nat.le_of_lt (Nat.lt_of_lt_of_le z dn)
    · simp only [Str.length_append, sizeLine_eq, empty_len]
      omega
end
end EiX
end PySem

/-! X(index = e), an own error made. -/
namespace PySem
namespace EiX
open PySem.W PySem.Calls PyProof.Rows PySem.HandSPX
/-- a made error -/
structure OwnMade (h h' : Heap) (e C d : Addr) (v : Value) : Prop where
  keep : ∀ b o, h.get? b = some o → h'.get? b = some o
  new : h.objs.size ≤ e
  obj : ∃ oe vs, h'.get? e = some oe ∧ oe.cls = .ref C ∧ oe.dict = some d ∧ oe.data = .fields vs ∧ vs[1]? = some .none
  dbig : h.objs.size ≤ d
  dne : d ≠ e
  ns : h'.Ns1 d (fun y => if y = "index" then some v else none)
section
variable {prog : Program} {w : World} {A : Around} {R : Result → Shared → Prop} {s : Shared} {K : Frag} {mg mb : Str → Option Value} {X : Str} {C fI : Addr}
theorem idx_made (T : EiTxt prog K mg X C fI) {i : Int} {tk0 : Tok} (KX : K.In s.heap) (hlim : s.heap.NoLimit) (hg : s.heap.Ns mainGlobals mg) (hb : s.heap.Ns builtinsNs mb) (hsu : mb "super" = some (.type "super")) (hroom : A.depth + 1 < recursionLimit) (hi : -(2 ^ 64) < i ∧ i < 2 ^ 64)
    (hq : ∀ h' tk e d, OwnMade s.heap h' e C d (.int i tk0) → R (.ok (.ret (.ref e))) { s with heap := h', toks := tk }) :
    codeAny (model prog w) A (.call (.ref C) ⟨[], [("index", .int i tk0)]⟩) R s := by
  obtain ⟨nm, q, N, bs, bm, sn, sub, ab, col, dd, k0, k1, k2, k3, k5, hC, hbm⟩ := T.cls
  obtain ⟨hp, g, dr, tk, os⟩ := s
  have k : ∀ b o, hp.get? b = some o → ((hp.push (kdv_tup [])).push (excO C hp.objs.size)).get? b = some o := fun b o e => Heap.get?_push_of_some _ (Heap.get?_push_of_some _ e)
  have hget : ((hp.push (kdv_tup [])).push (excO C hp.objs.size)).get? (hp.objs.size + 1) = some (excO C hp.objs.size) := by heap_get
  have hnx : K.lookup (hp.objs.size + 1) = none := by
    cases e : K.lookup (hp.objs.size + 1) with
    | none => rfl
    | some o =>
      have z : hp.get? (hp.objs.size + 1) = some o := KX _ _ e
      exact absurd (Nat.lt_of_succ_lt (Heap.lt_size z)) (Nat.lt_irrefl _)
  refine made_run (p := ⟨nm, q, N, bs, bm, sub, true, sn, ab, col, dd, k0, k1, k2, k3, k5⟩) hbm (KX _ _ hC) (looks_findIn KX T.iC) (fun self => bind_fn KX self T.tC) ?_
  refine idx_init (s := ⟨(hp.push (kdv_tup [])).push (excO C hp.objs.size), g, dr, tk, os⟩) T (KX.keeps k) (hlim.keeps k) (hg.keeps k) (hb.keeps k) hsu hget hnx ?_ hi fun h' tk' dx ⟨k', ⟨t1, hx⟩, dn, dne, hns⟩ => ?_
  · show A.depth + 1 < recursionLimit
    exact hroom
  · have old : ∀ b o, hp.get? b = some o → h'.get? b = some o := fun b o e => k' b o (Nat.ne_of_lt (Nat.lt_succ_of_lt (Heap.lt_size e))) (k b o e)
    have z : hp.objs.size + 1 + 1 ≤ dx := by
      first
        | (simpa only [Heap.size_push] using dn)
        | exact dn
        | (have q := dn; rw [Heap.size_push, Heap.size_push] at q; exact q)
    exact ⟨rfl, hq h' tk' (hp.objs.size + 1) dx ⟨old, Nat.le_succ _, ⟨_, _, hx, rfl, rfl, rfl, rfl⟩, Nat.le_trans (Nat.le_trans (Nat.le_succ _) (Nat.le_succ _)) z, dne, hns⟩⟩
end
end EiX
end PySem
namespace Cc
open PySem PySem.Spec PyProof.Rows L2
theorem relO_idx {v : V} {v' : Value} (r : RelV v v') (f : Str) : RelO (List.lookup f [(("index" : Str), v)]) (if f = "index" then some v' else none) := by
  by_cases hw : f = "index"
  · subst hw
    rw [if_pos rfl]
    have q : List.lookup ("index" : Str) [(("index" : Str), v)] = some v := by simp [List.lookup]
    rw [q]
    exact r
  · rw [if_neg hw]
    have qw : (f == ("index" : Str)) = false := by simpa using hw
    have q2 : List.lookup f [(("index" : Str), v)] = none := by simp [List.lookup, qw]
    rw [q2]
    trivial
/-- X(index = e) -/
def tMkIdx (C : Addr) (ta : TA) : L2.St → Hp → XK → Prop := fun σ H Q => ta σ H fun vs H1 => ∃ i : Int, vs = [.int i] ∧ (-(2 ^ 64) < i ∧ i < 2 ^ 64) ∧ ∀ d, H1 d = none → Q (.ref C) (some d) (upd H1 d (.xd [(("index" : Str), .int i)]))
section
variable {X : Cx}
theorem pmk_idx {x : Str} {C fI : Addr} {e : Expr} {te : TE} {p kpos pos : Pos} {k : Nat} (T : PySem.EiX.EiTxt X.prog X.K X.mg x C fI) (hr : Room k X.A) (he : PE X e te) (hg : Gl X x) (hdb : (x == ("__debug__" : Str)) = false := by decide)
    (hall : (backToKw pos (keywordEach [⟨some "index", e, kpos⟩] X.env)).all (·.1.isSome) = true := by rfl) (hks : (backToKw pos (keywordEach [⟨some "index", e, kpos⟩] X.env)).filterMap (·.1) = [("index" : Str)] := by rfl)
    (hpl : ((backTo pos (starEach [] X.env)).any (·.1) || (backToKw pos (keywordEach [⟨some "index", e, kpos⟩] X.env)).any (·.1.isNone)) = false := by rfl) :
    PMk X (.Call (.Name x p) [] [⟨some "index", e, kpos⟩] pos) (tMkIdx C (tCons te tNil)) := by
  intro pins s σ H Q I h
  refine wpAny_Call_Name_kw (ld_glob I hg T.at_ ?_ hdb)
  refine PySem.W.callWith_KW0 (h₀ := X.base) I.ok.mod.kin T.kp hall ?_ hpl
  refine thn ((pk_cons he pk_nil).run pos pins s σ H _ I h) fun ws s1 ⟨vs, H1, I1, r1, i, ev, hi, q1⟩ => ⟨I1.kIn, ?_⟩
  subst ev
  rw [hks]
  cases r1 with
  | cons rv rn =>
    rename_i v' us'
    cases rn
    obtain ⟨tk0, rfl⟩ := rv
    show wpAny _ _ (call (.ref C) [] [("index", .int i tk0)]) _ _ _
    have hlim := I1.nolimit
    obtain ⟨mb, hb1, hb2⟩ := I1.mod.blt
    have G := I1.mod.glob.keeps I1.bk
    have B := hb1.keeps I1.bk
    obtain ⟨hp, g, dr, tk, os⟩ := s1
    refine wpAny_call (PySem.EiX.idx_made T I1.kIn hlim G B ((hb2 _ (by decide)).trans (by first | rfl | decide +kernel)) (by have := hr.dp; omega) hi fun h' tk' e d M => ?_)
    show MkP X pins σ Q (.ref e) ⟨h', g, dr, tk', os⟩
    obtain ⟨oe, fv, hoe, hc, hd, hdat, h1⟩ := M.obj
    have hns := M.ns
    obtain ⟨G', g1, g2⟩ := restrict h' fun b => decide (b ≠ e)
    have gk : ∀ b, b ≠ e → G'.get? b = h'.get? b := fun b hb => g1 b (decide_eq_true hb)
    have ge : G'.get? e = none := g2 e (by simp)
    have old : ∀ b o, hp.get? b = some o → G'.get? b = some o := fun b o q => (gk b (Nat.ne_of_lt (Nat.lt_of_lt_of_le (Heap.lt_size q) M.new))).trans (M.keep b o q)
    have ob : ObjOk X.prog X.w (upd H1 d (.xd [(("index" : Str), .int i)])) G' d (.xd [(("index" : Str), .int i)]) :=
      ⟨_, hns.at (fun o q => (gk d M.dne).trans q), fun f => relO_idx (v := .int i) (v' := .int i tk0) ⟨tk0, rfl⟩ f⟩
    have J : Inv X pins σ (upd H1 d (.xd [(("index" : Str), .int i)])) ⟨G', g, dr, tk', os⟩ := I1.laid (t' := tk') old M.dbig ob
    refine ⟨e, oe, fv, ⟨G', g, dr, tk', os⟩, _, .ref C, some d, rfl, J, fun b o q => ?_, ge, hoe, ⟨hc, hd⟩, hdat, h1, ?_, rfl, I1.bare, raises_own T.sub T.ty, q1 d (I1.hok.fresh M.dbig)⟩
    · by_cases hb : b = e
      · have q' : G'.get? b = some o := q
        rw [hb, ge] at q'; cases q'
      · exact (gk b hb).symm.trans q
    · rw [upd_ne (Ne.symm M.dne)]
      exact I1.hok.fresh M.new
end
end Cc

/-! check_house: what it tells, what it refuses. -/
namespace Cc
open PySem PySem.Spec PyProof.Rows L2
/-- a step that a house with c chairs is too small for -/
def bigS (c : Int) : Stp → Prop
  | .turn => False
  | .meet _ n => c < n
/-- the first one -/
def FewAt (c : Int) (ss : List Stp) (i : Nat) : Prop := (∀ s ∈ ss.take i, ¬ bigS c s) ∧ ∃ b n, ss[i]? = some (.meet b n) ∧ c < n
theorem ok_big {c : Int} {s : Stp} (h : s.ok 1000000000000000000) (n : ¬ bigS c s) : s.ok c := by
  cases s with
  | turn => trivial
  | meet b m => exact ⟨h.1, Int.not_lt.mp n⟩
theorem big_ok {c : Int} {s : Stp} (h : s.ok c) : ¬ bigS c s := by
  cases s with
  | turn => exact id
  | meet b m => exact Int.not_lt.mpr h.2
/-- a promise of a def that may raise, where it does not -/
theorem fnr_calm {P : Program} {w : World} {K : PySem.W.Frag} {mg : Str → Option Value} {base : Heap} {k : Nat} {f : Addr} {sp : Sp} (F : FnR P w K mg base (L2.CX P w) k f sp) : FnR P w K mg base CX0 k f (fun vs H Q _ => sp vs H Q E0) := by
  intro A outer s H us vs Q E hr e0 r h
  refine codeAny_mono (F A outer s H us vs Q E0 hr e0 r h) fun z s' hq => ?_
  cases z with
  | error e =>
    obtain ⟨_, _, _, _, _, _, _, _, _, _, _, _, q⟩ := hq
    exact q.elim
  | ok fl =>
    cases fl with
    | ret u => exact hq
    | next => exact hq
    | brk => exact hq
    | cont => exact hq
def spHouseA (C CT CN : Addr) : Sp := fun vs H Q E => ∃ (p : Addr) (c : Int) (ss : List Stp), vs = [.ref p, .int c] ∧ PlanAt C H p ss ∧ ss.length ≤ 60 ∧ (¬ (0 ≤ c ∧ c ≤ 1000000000000000000) → E (.ref CN) none H) ∧
  (0 ≤ c → c ≤ 1000000000000000000 → ∀ i H' d, FewAt c ss i → Same H H' → H' d = none → E (.ref CT) (some d) (upd H' d (.xd [(("index" : Str), .int (i : Nat))]))) ∧ (0 ≤ c → c ≤ 1000000000000000000 → (∀ s ∈ ss, ¬ bigS c s) → ∀ H', Same H H' → Q .non H')
section
variable {P : Program} {w : World} {K : PySem.W.Frag} {mg : Str → Option Value} {base : Heap} {C TU pS gS : Addr} {mc : Value}
theorem ok_housea {f fN CT CN fI : Addr} {fd fdS : FuncData} (F : Fun K "check_house" "check_house" sChkHouse f fd) (T : Txt K mg C TU pS gS mc) (G : Gs P w K mg base C gS fdS) (N : DnX P w K mg base 2 "check_number" fN (spNumX CN)) (X : PySem.EiX.EiTxt P K mg "TooFewChairs" CT fI) :
    FnOk P w K mg base (L2.CX P w) 3 f fd ["plan", "chairs"] (spHouseA C CT CN) := by
  refine F.okX scChkHouse (fun vs H Q E h => ?_) (fun cdv A outer s H vs Q E hr h => ?_)
  · obtain ⟨p, c, ss, rfl, _⟩ := h
    rfl
  · obtain ⟨p, c, ss, rfl, hp, hl, k1, k2, k3⟩ := h
    obtain ⟨dx, tp, ws, e1, e2, e3⟩ := id hp
    obtain ⟨u, hu⟩ := T.con
    refine ⟨_, pss_cons (ps_expr (pe_callR (Ez := E) N.ok hr rfl N.at_ N.kp (passes_call (takes_of rfl rfl rfl rfl) fun _ _ _ _ h => h) (pa_cons (pv 1) (pa_cons pe_int (pa_cons (pe_con (pv 0) rfl) pa_nil)))))
      (pss_one (ps_for (passes_of rfl) rfl (pi_enumT (by rfl) T.b.enumerate (pa_cons (pe_prop (pv 0) T.cl T.pr G.ok hr G.b .nil pass0 rfl) pa_nil))
        (pg_tup rfl (pgs_cons (pg_name (i := 2) scChkHouse.nd rfl (.inl rfl)) (pgs_cons (pg_name (i := 3) scChkHouse.nd rfl (.inl rfl)) pgs_nil)))
        (pss_one (ps_if (PW.pt (pw_and (pt_cmpR op_eq (pe_callB call_len (by rfl) T.b.len PySem.boot_len (pa_cons (pv 3) pa_nil)) pe_int (nomark _))
          (pw_and1 (pt_cmpR op_gt (pe_ix ix_tup (pv 3) pe_int (fun _ _ => rfl)) (pv 1) (nomark _)))))
          (pss_one (ps_raise (W := fun cls d _ H => E cls d H) rfl (takes_of rfl rfl rfl rfl) (pmk_idx X hr (pv 2) rfl))) pss_nil)))), ?_⟩
    refine ⟨_, rfl, _, rfl, p, C, dx, _, _, u, rfl, e1, T.cl, hu, lk_no (by decide +kernel), c, 0, _, rfl, by decide, by decide, fun hc => ?_, fun hc => k1 hc⟩
    obtain ⟨h0, h1⟩ := hc
    refine ⟨_, rfl, p, dx, _, rfl, e1, p, dx, _, _, rfl, e1, lk_self, tp, ws, rfl, e2.sq, ?_⟩
    refine for_it (walk_enumT (xs := ws)) (fun i σ H' => ∃ a b, σ = [some (.ref p), some (.int c), a, b] ∧ Same H H' ∧ ∀ s ∈ ss.take i, ¬ bigS c s) ⟨none, none, rfl, Same.refl H, fun s hs => by simp at hs⟩ (fun i σ H' _ ⟨_, _, _, s1, _⟩ => (e2.same s1).sq) ?_ ?_
    · rintro i x σ H1 H2 hi ⟨a, b, rfl, s1, nb⟩ ⟨q, y1, y2, rfl, n1, rfl, z1, z2⟩
      obtain ⟨st, hst, t, rfl, ht⟩ := e3.get z2
      have il : i < ss.length := (List.getElem?_eq_some_iff.mp hst).1
      have s2 : Same H (upd H1 q (.tup [y1, .ref t])) := s1.trans (same_upd n1)
      have ht2 := s2 _ _ ht
      have nb2 : ¬ bigS c st → ∀ s ∈ ss.take (i + 1), ¬ bigS c s := fun h s hs => by
        rw [take_more hst] at hs
        rcases List.mem_append.mp hs with m | m
        · exact nb s m
        · rw [List.mem_singleton.mp m]
          exact h
      refine ⟨q, _, rfl, SqT.of upd_same, rfl, _, _, rfl, _, _, rfl, rfl, ?_⟩
      refine ⟨_, rfl, _, _, rfl, .inr ⟨_, SqT.of ht2, rfl⟩, rfl, ?_⟩
      cases st with
      | turn => exact ⟨_, rfl, iteF (iteF ⟨_, _, rfl, s2, nb2 id⟩)⟩
      | meet bb n =>
        refine ⟨_, rfl, iteT ⟨_, rfl, t, _, _, _, rfl, rfl, SqT.of ht2, at_of (j := 1) rfl rfl, _, rfl, _, _, rfl, rfl, _, rfl, ?_⟩⟩
        by_cases hc : c < n
        · rw [decide_eq_true hc]
          refine iteT ⟨_, rfl, (i : Int), by rw [← Option.some.inj z1], ⟨by omega, by omega⟩, fun d hd => k2 h0 h1 i _ d ⟨nb, bb, n, hst, hc⟩ s2 hd⟩
        · rw [decide_eq_false hc]
          exact iteF ⟨_, _, rfl, s2, nb2 hc⟩
    · rintro σ H' ⟨a, b, rfl, s1, nb⟩
      rw [e3.length, List.take_length] at nb
      exact k3 h0 h1 nb H' s1
end
end Cc

/-! What carries, and what it refuses. -/
namespace Cc
open PySem PySem.Spec PyProof.Rows L2
def spSettle (C : Addr) : Sp := fun vs H Q _ => ∃ (p : Addr) (ss : List Stp) (c : Int), vs = [.ref p, .int c] ∧ PlanAt C H p ss ∧ ss.length ≤ 60 ∧ (∀ s ∈ ss, s.ok c) ∧ 0 ≤ c ∧ ∀ k H', Same H H' → Q (.int k) H'
theorem pe_nix {X : Cx} {e : Expr} : PE X e (fun _ _ _ => False) := ⟨fun _ _ _ _ _ _ h => False.elim h⟩
/-- few chairs, told with the index of the first step that needs more -/
def FewE (CT : Addr) (H : Hp) (c : Int) (ss : List Stp) (E : XK) : Prop := ∀ i H' d, FewAt c ss i → Same H H' → H' d = none → E (.ref CT) (some d) (upd H' d (.xd [(("index" : Str), .int (i : Nat))]))
def spStartA (C CT CN : Addr) : Sp := fun vs H Q E => ∃ (p : Addr) (c r : Int) (ss : List Stp), vs = [.ref p, .int c, .int r] ∧ PlanAt C H p ss ∧ ss.length ≤ 60 ∧ 0 ≤ c ∧ c ≤ 1000000000000000000 ∧ FewE CT H c ss E ∧
  ((∀ s ∈ ss, ¬ bigS c s) → ¬ (0 ≤ r ∧ r ≤ c) → ∀ H', Same H H' → E (.ref CN) none H') ∧ ((∀ s ∈ ss, ¬ bigS c s) → 0 ≤ r → r ≤ c → ∀ H', Same H H' → Q .non H')
def spRoundsA (C CT CN : Addr) : Sp := fun vs H Q E => ∃ (p : Addr) (ss : List Stp) (c r n : Int), vs = [.ref p, .int c, .int r, .int n] ∧ PlanAt C H p ss ∧ ss.length ≤ 60 ∧ (∀ s ∈ ss, s.ok 1000000000000000000) ∧ 0 ≤ c ∧ c ≤ 1000000000000000000 ∧ FewE CT H c ss E ∧
  ((∀ s ∈ ss, ¬ bigS c s) → ¬ ((0 ≤ r ∧ r ≤ c) ∧ 0 ≤ n ∧ n ≤ 1000000000000000000) → ∀ H', Same H H' → E (.ref CN) none H') ∧
  ((∀ s ∈ ss, ¬ bigS c s) → 0 ≤ r → r ≤ c → 0 ≤ n → n ≤ 1000000000000000000 → ∀ q a b H', Same H H' → H' q = some (.tup [.int a, .int b]) → Q (.ref q) H')
def spCarryA (C CT CN : Addr) : Sp := fun vs H Q E => ∃ (p : Addr) (ss : List Stp) (c r n : Int), vs = [.ref p, .int c, .int r, .int n] ∧ PlanAt C H p ss ∧ ss.length ≤ 60 ∧ (∀ s ∈ ss, s.ok 1000000000000000000) ∧ 0 ≤ c ∧ c ≤ 1000000000000000000 ∧ FewE CT H c ss E ∧
  ((∀ s ∈ ss, ¬ bigS c s) → ¬ ((0 ≤ r ∧ r ≤ c) ∧ 0 ≤ n ∧ n ≤ 1000000000000000000) → ∀ H', Same H H' → E (.ref CN) none H') ∧
  ((∀ s ∈ ss, ¬ bigS c s) → 0 ≤ r → r ≤ c → 0 ≤ n → n ≤ 1000000000000000000 → ∀ a H', Same H H' → Q (.int a) H')
def spSumA (C CT CN : Addr) : Sp := fun vs H Q E => ∃ (p : Addr) (ss : List Stp) (c : Int), vs = [.ref p, .int c] ∧ PlanAt C H p ss ∧ ss.length ≤ 60 ∧ (¬ (0 ≤ c ∧ c ≤ 1000000000000000000) → E (.ref CN) none H) ∧ (0 ≤ c → c ≤ 1000000000000000000 → FewE CT H c ss E) ∧
  (0 ≤ c → c ≤ 1000000000000000000 → (∀ s ∈ ss, ¬ bigS c s) → ∀ q m H', Same H H' → H' q = some (.tup (smV m)) → Q (.ref q) H')
def spLongA (C CT CN : Addr) : Sp := fun vs H Q E => ∃ (p : Addr) (ss : List Stp) (c : Int), vs = [.ref p, .int c] ∧ PlanAt C H p ss ∧ ss.length ≤ 60 ∧ (∀ s ∈ ss, s.ok 1000000000000000000) ∧ (¬ (0 ≤ c ∧ c ≤ 1000000000000000000) → E (.ref CN) none H) ∧ (0 ≤ c → c ≤ 1000000000000000000 → FewE CT H c ss E) ∧
  (0 ≤ c → c ≤ 1000000000000000000 → (∀ s ∈ ss, ¬ bigS c s) → ∀ q a b H', Same H H' → H' q = some (.tup [.int a, .int b]) → Q (.ref q) H')
/-- one chair more than there may be -/
def spSaveA (C CT CN : Addr) : Sp := fun vs H _ E => ∃ (p : Addr) (ss : List Stp), vs = [.ref p, .int 1000000000000000000] ∧ PlanAt C H p ss ∧ ss.length ≤ 60 ∧ (∀ s ∈ ss, s.ok 1000000000000000000) ∧ ∀ H', Same H H' → E (.ref CN) none H'
/-- two plans, the house too small for the other one -/
def spFirstA (C CT CN : Addr) : Sp := fun vs H _ E => ∃ (p q : Addr) (ss us : List Stp) (c : Int), vs = [.ref p, .ref q, .int c] ∧ PlanAt C H p ss ∧ PlanAt C H q us ∧ ss.length ≤ 60 ∧ us.length ≤ 60 ∧ 0 ≤ c ∧ c ≤ 1000000000000000000 ∧ (∀ s ∈ ss, ¬ bigS c s) ∧ (∃ s ∈ us, bigS c s) ∧ FewE CT H c us E
section
variable {P : Program} {w : World} {K : PySem.W.Frag} {mg : Str → Option Value} {base : Heap} {C CT CN TU pS gS : Addr} {mc : Value}
abbrev s_settled_carrying : Stmt := top 23
abbrev n_settled_carrying : List Str := ["plan", "chairs"]
theorem sc_settled_carrying : FnScope n_settled_carrying ["plan", "chairs"] (defScope s_settled_carrying) := ⟨rfl, rfl, rfl, by decide +kernel, rfl, by decide +kernel, by decide +kernel⟩
theorem ok_settled_carrying {f f_after_rounds : Addr} {fd : FuncData} (F : Fun K "settled_carrying" "settled_carrying" s_settled_carrying f fd) (D_after_rounds : Dn P w K mg base 3 "after_rounds" f_after_rounds (spARounds C)) : FnOk P w K mg base CX0 4 f fd ["plan", "chairs"] (spSettle C) := by
  refine F.ok sc_settled_carrying (fun vs H Q E h => ?_) (fun cdv A outer s H vs Q E hr h => ?_)
  · obtain ⟨p, ss, c, rfl, _⟩ := h
    rfl
  · obtain ⟨p, ss, c, rfl, hp, hl, hs, c0, k⟩ := h
    refine ⟨_, pss_one (ps_ret (pe_op op_sub (pe_ix ix_tup (pe_callR D_after_rounds.ok (hr.mono (by decide)) rfl D_after_rounds.at_ D_after_rounds.kp pass0 (pa_cons (pv 0) (pa_cons (pv 1) (pa_cons pe_int (pa_cons pe_int pa_nil))))) pe_int (fun _ _ => rfl)) (pe_ix ix_tup (pe_callR D_after_rounds.ok (hr.mono (by decide)) rfl D_after_rounds.at_ D_after_rounds.kp pass0 (pa_cons (pv 0) (pa_cons (pv 1) (pa_cons pe_int (pa_cons pe_int pa_nil))))) pe_int (fun _ _ => rfl)))), ?_⟩
    refine ⟨_, rfl, _, rfl, p, ss, c, 0, 3, rfl, hp, hl, hs, Int.le_refl 0, c0, by decide, by decide, fun q H1 s1 e1 => ⟨q, _, _, _, rfl, rfl, SqT.of e1, at_of (j := 1) rfl rfl, ?_⟩⟩
    refine ⟨_, rfl, _, rfl, p, ss, c, 0, 2, rfl, hp.same s1, hl, hs, Int.le_refl 0, c0, by decide, by decide, fun q H2 s2 e2 => ⟨q, _, _, _, rfl, rfl, SqT.of e2, at_of (j := 1) rfl rfl, ?_⟩⟩
    exact ⟨_, _, rfl, rfl, k _ H2 (s1.trans s2)⟩
theorem okx_check_start {f fx_check_house fx_check_number : Addr} {fd : FuncData} (F : Fun K "check_start" "check_start" s_check_start f fd) (DX_check_house : DnX P w K mg base 3 "check_house" fx_check_house (spHouseA C CT CN)) (DX_check_number : DnX P w K mg base 2 "check_number" fx_check_number (spNumX CN)) : FnOk P w K mg base (L2.CX P w) 4 f fd ["plan", "chairs", "start"] (spStartA C CT CN) := by
  refine F.okX sc_check_start (fun vs H Q E h => ?_) (fun cdv A outer s H vs Q E hr h => ?_)
  · obtain ⟨p, c, r, ss, rfl, _⟩ := h
    rfl
  · obtain ⟨p, c, r, ss, rfl, hp, hl, c0, c1, k1, k2, k3⟩ := h
    refine ⟨_, pss_cons (ps_expr (pe_callR (Ez := E) DX_check_house.ok (hr.mono (by decide)) rfl DX_check_house.at_ DX_check_house.kp (passes_call (takes_of rfl rfl rfl rfl) fun _ _ _ _ h => h) (pa_cons (pv 0) (pa_cons (pv 1) pa_nil))))
      (pss_one (ps_expr (pe_callR (Ez := E) DX_check_number.ok (hr.mono (by decide)) rfl DX_check_number.at_ DX_check_number.kp (passes_call (takes_of rfl rfl rfl rfl) fun _ _ _ _ h => h) (pa_cons (pv 2) (pa_cons pe_int (pa_cons (pv 1) pa_nil)))))), ?_⟩
    refine ⟨_, rfl, _, rfl, p, c, ss, rfl, hp, hl, (fun z => (z ⟨c0, c1⟩).elim), fun _ _ => k1, fun _ _ nb H1 s1 => ?_⟩
    exact ⟨_, rfl, _, rfl, r, 0, c, rfl, by decide, ⟨by omega, by omega⟩, fun h => k3 nb h.1 h.2 H1 s1, fun h => k2 nb h H1 s1⟩
theorem okx_checked_rounds {f f_after_rounds fx_check_start fx_check_number : Addr} {fd : FuncData} (F : Fun K "checked_rounds" "checked_rounds" s_checked_rounds f fd) (g_MAX_ROUNDS : ∃ u, mg "MAX_ROUNDS" = some u ∧ RelV (.int 1000000000000000000) u) (D_after_rounds : Dn P w K mg base 3 "after_rounds" f_after_rounds (spARounds C)) (DX_check_start : DnX P w K mg base 4 "check_start" fx_check_start (spStartA C CT CN)) (DX_check_number : DnX P w K mg base 2 "check_number" fx_check_number (spNumX CN)) : FnOk P w K mg base (L2.CX P w) 5 f fd ["plan", "chairs", "start", "rounds"] (spRoundsA C CT CN) := by
  refine F.okX sc_checked_rounds (fun vs H Q E h => ?_) (fun cdv A outer s H vs Q E hr h => ?_)
  · obtain ⟨p, ss, c, r, n, rfl, _⟩ := h
    rfl
  · obtain ⟨p, ss, c, r, n, rfl, hp, hl, hs, c0, c1, k1, k2, k3⟩ := h
    obtain ⟨u_MAX_ROUNDS, m_MAX_ROUNDS, r_MAX_ROUNDS⟩ := g_MAX_ROUNDS
    refine ⟨_, pss_cons (ps_expr (pe_callR (Ez := E) DX_check_start.ok (hr.mono (by decide)) rfl DX_check_start.at_ DX_check_start.kp (passes_call (takes_of rfl rfl rfl rfl) fun _ _ _ _ h => h) (pa_cons (pv 0) (pa_cons (pv 1) (pa_cons (pv 2) pa_nil)))))
      (pss_cons (ps_expr (pe_callR (Ez := E) DX_check_number.ok (hr.mono (by decide)) rfl DX_check_number.at_ DX_check_number.kp (passes_call (takes_of rfl rfl rfl rfl) fun _ _ _ _ h => h) (pa_cons (pv 3) (pa_cons pe_int (pa_cons (pe_glob rfl m_MAX_ROUNDS r_MAX_ROUNDS) pa_nil)))))
      (pss_one (ps_ret (pe_callR D_after_rounds.ok (hr.mono (by decide)) rfl D_after_rounds.at_ D_after_rounds.kp pass0 (pa_cons (pv 0) (pa_cons (pv 1) (pa_cons (pv 2) (pa_cons (pv 3) pa_nil)))))))), ?_⟩
    refine ⟨_, rfl, _, rfl, _, rfl, p, c, r, ss, rfl, hp, hl, c0, c1, k1, fun nb h H' s => k2 nb (fun z => h z.1) H' s, fun nb r0 r1 H1 s1 => ?_⟩
    refine ⟨_, rfl, n, 0, _, rfl, by decide, by decide, fun h => ?_, fun h => k2 nb (fun z => h z.2) H1 s1⟩
    exact ⟨_, rfl, _, rfl, _, rfl, _, rfl, p, ss, c, r, n, rfl, hp.same s1, hl, fun s q => ok_big (hs s q) (nb s q), r0, r1, h.1, h.2, fun q H2 s2 e2 => k3 nb r0 r1 h.1 h.2 q _ _ H2 (s1.trans s2) e2⟩
theorem okx_total_carried {f fx_checked_rounds : Addr} {fd : FuncData} (F : Fun K "total_carried" "total_carried" s_total_carried f fd) (DX_checked_rounds : DnX P w K mg base 5 "checked_rounds" fx_checked_rounds (spRoundsA C CT CN)) : FnOk P w K mg base (L2.CX P w) 6 f fd ["plan", "chairs", "start", "rounds"] (spCarryA C CT CN) := by
  refine F.okX sc_total_carried (fun vs H Q E h => ?_) (fun cdv A outer s H vs Q E hr h => ?_)
  · obtain ⟨p, ss, c, r, n, rfl, _⟩ := h
    rfl
  · obtain ⟨p, ss, c, r, n, rfl, hp, hl, hs, c0, c1, k1, k2, k3⟩ := h
    refine ⟨_, pss_one (ps_ret (pe_ix ix_tup (pe_callR (Ez := E) DX_checked_rounds.ok (hr.mono (by decide)) rfl DX_checked_rounds.at_ DX_checked_rounds.kp (passes_call (takes_of rfl rfl rfl rfl) fun _ _ _ _ h => h) (pa_cons (pv 0) (pa_cons (pv 1) (pa_cons (pv 2) (pa_cons (pv 3) pa_nil))))) pe_int (fun _ _ => rfl))), ?_⟩
    exact ⟨_, rfl, _, rfl, _, rfl, _, rfl, p, ss, c, r, n, rfl, hp, hl, hs, c0, c1, k1, k2, fun nb r0 r1 n0 n1 q a b H1 s1 e1 => ⟨q, _, _, _, rfl, rfl, SqT.of e1, at_of (j := 1) rfl rfl, k3 nb r0 r1 n0 n1 _ H1 s1⟩⟩
theorem okx_red_chairs {f fx_checked_rounds : Addr} {fd : FuncData} (F : Fun K "red_chairs" "red_chairs" s_red_chairs f fd) (DX_checked_rounds : DnX P w K mg base 5 "checked_rounds" fx_checked_rounds (spRoundsA C CT CN)) : FnOk P w K mg base (L2.CX P w) 6 f fd ["plan", "chairs", "start", "rounds"] (spCarryA C CT CN) := by
  refine F.okX sc_red_chairs (fun vs H Q E h => ?_) (fun cdv A outer s H vs Q E hr h => ?_)
  · obtain ⟨p, ss, c, r, n, rfl, _⟩ := h
    rfl
  · obtain ⟨p, ss, c, r, n, rfl, hp, hl, hs, c0, c1, k1, k2, k3⟩ := h
    refine ⟨_, pss_one (ps_ret (pe_ix ix_tup (pe_callR (Ez := E) DX_checked_rounds.ok (hr.mono (by decide)) rfl DX_checked_rounds.at_ DX_checked_rounds.kp (passes_call (takes_of rfl rfl rfl rfl) fun _ _ _ _ h => h) (pa_cons (pv 0) (pa_cons (pv 1) (pa_cons (pv 2) (pa_cons (pv 3) pa_nil))))) pe_int (fun _ _ => rfl))), ?_⟩
    exact ⟨_, rfl, _, rfl, _, rfl, _, rfl, p, ss, c, r, n, rfl, hp, hl, hs, c0, c1, k1, k2, fun nb r0 r1 n0 n1 q a b H1 s1 e1 => ⟨q, _, _, _, rfl, rfl, SqT.of e1, at_of (j := 0) rfl rfl, k3 nb r0 r1 n0 n1 _ H1 s1⟩⟩
theorem okx_summary {f f_effect_of fx_check_house : Addr} {fd fdS : FuncData} (F : Fun K "summary" "summary" s_summary f fd) (T : Txt K mg C TU pS gS mc) (G : Gs P w K mg base C gS fdS) (D_effect_of : Dn P w K mg base 2 "effect_of" f_effect_of (spEffect K)) (DX_check_house : DnX P w K mg base 3 "check_house" fx_check_house (spHouseA C CT CN)) : FnOk P w K mg base (L2.CX P w) 4 f fd ["plan", "chairs"] (spSumA C CT CN) := by
  refine F.okX sc_summary (fun vs H Q E h => ?_) (fun cdv A outer s H vs Q E hr h => ?_)
  · obtain ⟨p, ss, c, rfl, _⟩ := h
    rfl
  · obtain ⟨p, ss, c, rfl, hp, hl, k1, k2, k3⟩ := h
    refine ⟨_, pss_cons (ps_expr (pe_callR (Ez := E) DX_check_house.ok (hr.mono (by decide)) rfl DX_check_house.at_ DX_check_house.kp (passes_call (takes_of rfl rfl rfl rfl) fun _ _ _ _ h => h) (pa_cons (pv 0) (pa_cons (pv 1) pa_nil))))
      (pss_one (ps_ret (pe_callR D_effect_of.ok (hr.mono (by decide)) rfl D_effect_of.at_ D_effect_of.kp pass0 (pa_cons (pe_prop (pv 0) T.cl T.pr G.ok (hr.mono (by decide)) G.b .nil pass0 rfl) (pa_cons (pv 1) pa_nil))))), ?_⟩
    refine ⟨_, rfl, _, rfl, p, c, ss, rfl, hp, hl, k1, k2, fun c0 c1 nb H1 s1 => ?_⟩
    obtain ⟨dx, tp, ws, e1, e2, e3, e4⟩ := (hp.same s1).tup (K := K)
    exact ⟨_, rfl, p, dx, _, rfl, e1, p, dx, _, _, rfl, e1, lk_self, _, rfl, tp, ws, ss, c, rfl, e2, e3, e4, fun q H2 s2 e2 => k3 c0 c1 nb q _ H2 (s1.trans s2) e2⟩
abbrev s_long_run : Stmt := top 21
abbrev n_long_run : List Str := ["plan", "chairs"]
theorem sc_long_run : FnScope n_long_run ["plan", "chairs"] (defScope s_long_run) := ⟨rfl, rfl, rfl, by decide +kernel, rfl, by decide +kernel, by decide +kernel⟩
theorem okx_long_run {f f_settled_carrying fx_check_house : Addr} {fd : FuncData} (F : Fun K "long_run" "long_run" s_long_run f fd) (D_settled_carrying : Dn P w K mg base 4 "settled_carrying" f_settled_carrying (spSettle C)) (DX_check_house : DnX P w K mg base 3 "check_house" fx_check_house (spHouseA C CT CN)) : FnOk P w K mg base (L2.CX P w) 5 f fd ["plan", "chairs"] (spLongA C CT CN) := by
  refine F.okX sc_long_run (fun vs H Q E h => ?_) (fun cdv A outer s H vs Q E hr h => ?_)
  · obtain ⟨p, ss, c, rfl, _⟩ := h
    rfl
  · obtain ⟨p, ss, c, rfl, hp, hl, hs, k1, k2, k3⟩ := h
    refine ⟨_, pss_cons (ps_expr (pe_callR (Ez := E) DX_check_house.ok (hr.mono (by decide)) rfl DX_check_house.at_ DX_check_house.kp (passes_call (takes_of rfl rfl rfl rfl) fun _ _ _ _ h => h) (pa_cons (pv 0) (pa_cons (pv 1) pa_nil))))
      (pss_one (ps_ret (pe_tup (pa_cons (pe_callR D_settled_carrying.ok (hr.mono (by decide)) rfl D_settled_carrying.at_ D_settled_carrying.kp pass0 (pa_cons (pv 0) (pa_cons (pv 1) pa_nil))) (pa_cons pe_int pa_nil))))), ?_⟩
    refine ⟨_, rfl, _, rfl, p, c, ss, rfl, hp, hl, k1, k2, fun c0 c1 nb H1 s1 => ?_⟩
    refine ⟨_, rfl, _, rfl, p, ss, c, rfl, hp.same s1, hl, fun s q => ok_big (hs s q) (nb s q), c0, fun a H2 s2 => ⟨by show 2 ≤ sizeLine; decide, fun z hz => ?_⟩⟩
    exact k3 c0 c1 nb z a 1 _ ((s1.trans s2).trans (same_upd hz)) upd_same
abbrev s_saving : Stmt := top 22
abbrev n_saving : List Str := ["plan", "chairs"]
theorem sc_saving : FnScope n_saving ["plan", "chairs"] (defScope s_saving) := ⟨rfl, rfl, rfl, by decide +kernel, rfl, by decide +kernel, by decide +kernel⟩
theorem okx_saving {f fx_check_house fx_check_number : Addr} {fd : FuncData} (F : Fun K "saving" "saving" s_saving f fd) (T : Txt K mg C TU pS gS mc) (DX_check_house : DnX P w K mg base 3 "check_house" fx_check_house (spHouseA C CT CN)) (DX_check_number : DnX P w K mg base 2 "check_number" fx_check_number (spNumX CN)) : FnOk P w K mg base (L2.CX P w) 6 f fd ["plan", "chairs"] (spSaveA C CT CN) := by
  refine F.okX sc_saving (fun vs H Q E h => ?_) (fun cdv A outer s H vs Q E hr h => ?_)
  · obtain ⟨p, ss, rfl, _⟩ := h
    rfl
  · obtain ⟨p, ss, rfl, hp, hl, hs, k⟩ := h
    obtain ⟨u, hu⟩ := T.con
    refine ⟨_, pss_cons (ps_expr (pe_callR (Ez := E) DX_check_house.ok (hr.mono (by decide)) rfl DX_check_house.at_ DX_check_house.kp (passes_call (takes_of rfl rfl rfl rfl) fun _ _ _ _ h => h) (pa_cons (pv 0) (pa_cons (pv 1) pa_nil))))
      (pss_cons (ps_expr (pe_callR (Ez := E) DX_check_number.ok (hr.mono (by decide)) rfl DX_check_number.at_ DX_check_number.kp (passes_call (takes_of rfl rfl rfl rfl) fun _ _ _ _ h => h) (pa_cons (pv 1) (pa_cons pe_int (pa_cons (pe_op op_sub (pe_con (pv 0) rfl) pe_int) pa_nil)))))
      (pss_one (ps_ret (pe_tup (pa_cons pe_nix (pa_cons pe_int pa_nil)))))), ?_⟩
    refine ⟨_, rfl, _, rfl, p, _, ss, rfl, hp, hl, (fun z => (z ⟨by decide, by decide⟩).elim), (fun _ _ i _ _ fa => ?_), fun _ _ _ H1 s1 => ?_⟩
    · obtain ⟨_, b, n, hb, hc⟩ := fa
      exact (big_ok (hs _ (List.mem_of_getElem? hb)) hc).elim
    · obtain ⟨dx, tp, ws, e1, e2, e3⟩ := hp.same s1
      exact ⟨_, rfl, _, rfl, p, C, dx, _, _, u, rfl, e1, T.cl, hu, lk_no (by decide +kernel), _, _, rfl, rfl, _, _, _, rfl, by decide, by decide, fun h => absurd h.2 (by decide), fun h => k H1 s1⟩
abbrev s_first_difference : Stmt := top 35
abbrev n_first_difference : List Str := ["plan", "other", "chairs", "start"]
theorem sc_first_difference : FnScope n_first_difference ["plan", "other", "chairs"] (defScope s_first_difference) := ⟨rfl, rfl, rfl, by decide +kernel, rfl, by decide +kernel, by decide +kernel⟩
theorem okx_first_difference {f fx_check_house : Addr} {fd : FuncData} (F : Fun K "first_difference" "first_difference" s_first_difference f fd) (DX_check_house : DnX P w K mg base 3 "check_house" fx_check_house (spHouseA C CT CN)) : FnOk P w K mg base (L2.CX P w) 6 f fd ["plan", "other", "chairs"] (spFirstA C CT CN) := by
  refine F.okX sc_first_difference (fun vs H Q E h => ?_) (fun cdv A outer s H vs Q E hr h => ?_)
  · obtain ⟨p, q, ss, us, c, rfl, _⟩ := h
    rfl
  · obtain ⟨p, q, ss, us, c, rfl, hp, hq, hl, hl2, c0, c1, nb, hb, k⟩ := h
    refine ⟨_, pss_cons (ps_expr (pe_callR (Ez := E) DX_check_house.ok (hr.mono (by decide)) rfl DX_check_house.at_ DX_check_house.kp (passes_call (takes_of rfl rfl rfl rfl) fun _ _ _ _ h => h) (pa_cons (pv 0) (pa_cons (pv 2) pa_nil))))
      (pss_cons (ps_expr (pe_callR (Ez := E) DX_check_house.ok (hr.mono (by decide)) rfl DX_check_house.at_ DX_check_house.kp (passes_call (takes_of rfl rfl rfl rfl) fun _ _ _ _ h => h) (pa_cons (pv 1) (pa_cons (pv 2) pa_nil))))
      pss_never), ?_⟩
    refine ⟨_, rfl, _, rfl, p, c, ss, rfl, hp, hl, (fun z => (z ⟨c0, c1⟩).elim), (fun _ _ i _ _ fa => ?_), fun _ _ _ H1 s1 => ?_⟩
    · obtain ⟨_, b, n, hb, hc⟩ := fa
      exact (nb _ (List.mem_of_getElem? hb) hc).elim
    · refine ⟨_, rfl, _, rfl, q, c, us, rfl, hq.same s1, hl2, (fun z => (z ⟨c0, c1⟩).elim), (fun _ _ i H2 d fa s2 hd => k i H2 d fa (s1.trans s2) hd), fun _ _ nb2 H2 s2 => ?_⟩
      obtain ⟨s, hs, hs2⟩ := hb
      exact (nb2 s hs hs2).elim
end
end Cc

/-! Own rules: count of a list, of a tuple; what is never reached; isinstance of a caught error. -/
namespace Cc
open PySem PySem.Spec PyProof.Rows L2
theorem room65 {k : Nat} {A : Around} (hr : Room k A) : A.units + 65 < cLine := by
  have := hr.un
  omega
/-- what is never reached -/
theorem pe_never {X : Cx} {e : Expr} : PE X e (fun _ _ _ => False) := ⟨fun _ _ _ _ _ _ h => h.elim⟩
def rCountL (K : PySem.W.Frag) : V → List V → Hp → VK → Prop := fun x xs H Q => ∃ (a : Addr) (ys : List V) (y : V) (d : PyData) (ds : List PyData), x = V.ref a ∧ xs = [y] ∧ SqL K H a ys ∧ DpAll K H ys ds ∧ Dp K H y d ∧
  SeqAt.shaped (.list ds) = true ∧ SeqAt.shaped d = true ∧ PyData.plainAll ds = true ∧ d.plain = true ∧ Q (.int ((ds.countP fun z => PyData.eqv z d : Nat) : Int)) H
def rCountT (K : PySem.W.Frag) : V → List V → Hp → VK → Prop := fun x xs H Q => ∃ (a : Addr) (ys : List V) (y : V) (d : PyData) (ds : List PyData), x = V.ref a ∧ xs = [y] ∧ SqT K H a ys ∧ DpAll K H ys ds ∧ Dp K H y d ∧
  SeqAt.shaped (.list ds) = true ∧ SeqAt.shaped d = true ∧ PyData.plainAll ds = true ∧ d.plain = true ∧ Q (.int ((ds.countP fun z => PyData.eqv z d : Nat) : Int)) H
theorem mt_countL {X : Cx} (hu : X.A.units + 65 < cLine) : MtR X "list.count" (rCountL X.K) := by
  intro pins s σ H x xs v us Q I rx rxs h; obtain ⟨a, ys, y, d, ds, rfl, rfl, hs, ha, hy, sl, sd, pl, pd, q⟩ := h
  cases rx
  cases rxs with
  | cons ry rt =>
    rename_i uy ut
    cases rt
    obtain ⟨bs, r1⟩ := Dp.reads I d y uy hy ry; have hroom : X.A.units + 1 + min (PyData.depthAll ds) d.depth < cLine := room_in_shaped sd hu
    obtain ⟨its, rv, p, hlen⟩ := I.list hs
    obtain ⟨as, h4⟩ := Dp.readsAll I ds _ its ha rv; exact SeqAt.count_list_data (vs := its.toArray) p.isList (by simpa using h4) r1 pl pd hroom ⟨.int _, H, I.tok _, ⟨_, rfl⟩, q⟩
theorem mt_countT {X : Cx} (hu : X.A.units + 65 < cLine) : MtR X "tuple.count" (rCountT X.K) := by
  intro pins s σ H x xs v us Q I rx rxs h; obtain ⟨a, ys, y, d, ds, rfl, rfl, hs, ha, hy, sl, sd, pl, pd, q⟩ := h
  cases rx
  cases rxs with
  | cons ry rt =>
    rename_i uy ut
    cases rt
    obtain ⟨bs, r1⟩ := Dp.reads I d y uy hy ry; have hroom : X.A.units + 1 + min (PyData.depthAll ds) d.depth < cLine := room_in_shaped sd hu
    obtain ⟨its, rv, p, hlen⟩ := I.tuple hs
    obtain ⟨as, h4⟩ := Dp.readsAll I ds _ its ha rv; exact SeqAt.count_tuple_data (vs := its.toArray) p (by simpa using h4) r1 pl pd hroom ⟨.int _, H, I.tok _, ⟨_, rfl⟩, q⟩
/-- a method of a locked tuple -/
def tBMZ (r : V → List V → Hp → VK → Prop) (to : TE) (t : TA) : TE := fun σ H Q => to σ H fun x H1 => (∃ p ws, x = V.ref p ∧ TupP H1 p ws) ∧ t σ H1 fun xs H2 => r x xs H2 Q
theorem pe_bmZ {X : Cx} {o e : Expr} {es : List Expr} {to : TE} {t : TA} {name : Str} {apos cpos : Pos} {id : String} {r : V → List V → Hp → VK → Prop} (slot : Slot "tuple" name id) (hty : typeOf (.builtin id) = pure (.type "method_descriptor")) (hm : MtR X id r) (ho : PE X o to) (ha : PA X (e :: es) t)
    (hbase : attributeBase o name X.env (eval o X.env) = eval o X.env := by rfl) (hfew : ((backTo cpos (starEach (e :: es) X.env)).all (fun x => !x.1) && (backToKw cpos (keywordEach [] X.env)).all (fun x => x.1.isSome) && decide ((e :: es).length + ([] : List Keyword).length + (if ([] : List Keyword).isEmpty then 0 else 1) < 30)) = true := by rfl)
    (hline : (apos.endLine == cpos.line) = true := by rfl) (hs : starEach (e :: es) X.env = (false, eval e X.env) :: starEach es X.env := by rfl) (hpl : (backTo cpos (starEach es X.env)).any (·.1) = false := by rfl) :
    PE X (.Call (.Attribute o name apos) (e :: es) [] cpos) (tBMZ r to t) := by
  refine ⟨fun pins s σ H Q I h => wpAny_Call_method_late hbase hfew hline rfl (thn (ho.run pins s σ H _ I h) fun v s1 ⟨x, H1, I1, r1, ⟨p, ws, ex, ob, d0, eH⟩, q1⟩ => ?_)⟩
  subst ex
  cases r1
  obtain ⟨g0, _, its, _, ⟨o2, g2, c2, _⟩⟩ := (show ObjOk X.prog X.w H1 s1.heap p (.frz ob (.tup ws)) from I1.hok p _ eH)
  have ti : s1.TypeIs (.ref p) "tuple" := ⟨o2, g2, c2⟩
  refine ⟨"tuple", id, PySem.F.plainAttrs_tuple, slot, hty, ti, fun a z => ⟨ob, by cases z; exact g0, d0⟩, ?_⟩
  have hA := ha.run cpos pins s1 σ H1 _ I1 q1; rw [hs] at hA ⊢
  exact Calls.callWith_builtin (by show (false || (backTo cpos (starEach es X.env)).any (·.1)) = false; rw [hpl]; rfl) (Calls.evalArgs_plain (thn hA fun us s2 ⟨vs, H2, I2, r2, q2⟩ => hm pins s2 σ H2 (.ref p) vs (.ref p) us Q I2 rfl r2 q2))
/-- an own class asked of an own class's instance -/
theorem kit_ref {K : PySem.W.Frag} {C : Addr} {cls : Value} {b : Bool} (i : PySem.W.isClsIn K C = true) (t : PySem.W.typeIn K (.ref C) = some (.type "type")) (h : PySem.W.subIn K cls (.ref C) = some b) (ne : b = false → (cls == Value.ref C) = false) : PySem.W.kitOne K cls (.ref C) = some b := by
  have i2 : (PySem.W.clsIn K C).isSome = true := i
  unfold PySem.W.kitOne
  by_cases q : (cls == Value.ref C) = true
  · rw [if_pos q]
    cases b with
    | true => rfl
    | false =>
      rw [ne rfl] at q
      cases q
  · rw [if_neg q]
    show PySem.W.kitCls K cls (.ref C) = some b
    unfold PySem.W.kitCls
    simp only [i2, t, h]
    rfl
/-- steps as data -/
def stpD : Stp → PyData
  | .turn => .tuple [.str "turn"]
  | .meet b n => .tuple [.str (roomS b), .int n]
theorem stpD_dp {K : PySem.W.Frag} {H : Hp} : ∀ {vs : List V} {ss : List Stp}, Steps H vs ss → DpAll K H vs (ss.map stpD)
  | _, _, .nil => .nil
  | _, s :: ss, .cons ⟨t, e, h⟩ r => by
    subst e
    refine .cons ?_ (stpD_dp r)
    cases s with
    | turn => exact .tup (SqT.of h) (.cons (.str _) .nil)
    | meet b n => exact .tup (SqT.of h) (.cons (.str _) (.cons (.int _) .nil))
theorem stpD_lay : ∀ ss : List Stp, PyData.canLayAll0 (ss.map stpD) = true ∧ PyData.depthAll (ss.map stpD) ≤ 1 ∧ PyData.plainAll (ss.map stpD) = true
  | [] => by simp [PyData.canLayAll0, PyData.depthAll, PyData.plainAll]
  | s :: ss => by
    obtain ⟨a, b, c⟩ := stpD_lay ss
    have h1 : ∀ bb, PyData.strOk (roomS bb) = true := fun bb => by cases bb <;> decide +kernel
    have h2 : PyData.strOk "turn" = true := by decide +kernel
    cases s with
    | turn =>
      refine ⟨by simp [PyData.canLayAll0, PyData.canLay0, stpD, a, h2], ?_, by simp [PyData.plainAll, PyData.plain, stpD, c]⟩
      simp [PyData.depthAll, PyData.depth, stpD]
      omega
    | meet bb n =>
      refine ⟨by simp [PyData.canLayAll0, PyData.canLay0, stpD, a, h1], ?_, by simp [PyData.plainAll, PyData.plain, stpD, c]⟩
      simp [PyData.depthAll, PyData.depth, stpD]
      omega
theorem stpD_shaped (ss : List Stp) : SeqAt.shaped (.list (ss.map stpD)) = true := by
  obtain ⟨a, b, _⟩ := stpD_lay ss
  have : PyData.depth (.list (ss.map stpD)) ≤ 2 := by
    simp [PyData.depth]
    omega
  simp [SeqAt.shaped, PyData.canLay0, a]
  omega
theorem count_turns : ∀ ss : List Stp, ((ss.map stpD).countP fun z => PyData.eqv z (.tuple [.str "turn"])) = turnsF ss
  | [] => rfl
  | s :: ss => by
    have ih := count_turns ss
    rw [List.map_cons, List.countP_cons, ih]
    cases s with
    | turn =>
      have e : PyData.eqv (stpD .turn) (.tuple [.str "turn"]) = true := eqv_turn
      rw [e]
      rfl
    | meet b n =>
      have e : PyData.eqv (stpD (.meet b n)) (.tuple [.str "turn"]) = false := eqv_meet b n
      rw [e]
      rfl
end Cc

/-! Generators that a comprehension drains: its list S grows, its own names (at C) change while the generator sleeps; a for with a yield. -/
namespace Cc
open PySem PySem.Spec PyProof.Rows L2 GenW
/-- names stand in such an object at C -/
def LocO (C : Addr) (o : Obj) : Prop := (∃ m, ∀ h : Heap, h.get? C = some o → h.Ns C m) ∧ ∀ v, o.data ≠ .cell v
/-- what the consumer does between two items -/
structure Nap (S C : Addr) (v : Value) (s s' : Shared) : Prop where
  os : s'.os = s.os
  bare : AllBare s'.gens
  keep : ∀ b o, b ≠ S → b ≠ C → s.heap.get? b = some o → s'.heap.get? b = some o
  grow : ∀ vs n, s.heap.get? S = some (lstObj vs n) → ∃ n', s'.heap.get? S = some (lstObj (vs.push v) n')
  loc : ∃ o, LocO C o ∧ s'.heap.get? C = some o
def Run (X : Cx) (S C : Addr) (ip : List (Addr × Obj)) (ys : List V) (σ : L2.St) (H : Hp) (s : Shared) : Prop := ∃ o, LocO C o ∧ GI X S ((C, o) :: ip) ys σ H s
/-- the two lie apart from the generator's own -/
structure Far (X : Cx) (S C : Addr) (ip : List (Addr × Obj)) : Prop where
  ne : S ≠ C
  aS : Apart X S
  aC : Apart X C
  pS : ∀ p ∈ X.pn ++ ip, p.1 ≠ S
  pC : ∀ p ∈ X.pn ++ ip, p.1 ≠ C
theorem Run.woken {X : Cx} {S C : Addr} {ip : List (Addr × Obj)} {ys : List V} {x : V} {v : Value} {σ : L2.St} {H : Hp} {s s' : Shared} (F : Far X S C ip) (h : Run X S C ip ys σ H s) (rv : RelV x v) (z : Nap S C v s s') : Run X S C ip (ys ++ [x]) σ H s' := by
  obtain ⟨o, ho, acc, c, r, I⟩ := h
  obtain ⟨eS, nS, lS, fS, _⟩ := I.pin (S, lstObj acc c) (List.mem_append_right _ List.mem_cons_self)
  obtain ⟨eC, nC, lC, fC, _⟩ := I.pin (C, o) (List.mem_append_right _ (List.mem_cons_of_mem _ List.mem_cons_self))
  have I0 : Inv X ip σ H s := I.pins_of fun p hp => I.pin p (List.mem_append_right _ (List.mem_cons_of_mem _ (List.mem_cons_of_mem _ hp)))
  obtain ⟨z1, z2, z3, z4, o', ho', eC'⟩ := z
  obtain ⟨cS, eS'⟩ := z4 acc c eS
  obtain ⟨hq, gq, dq, tq, os⟩ := s'
  cases (show os = s.os from z1)
  have far : ∀ b, b ∉ [S, C] → b ≠ S ∧ b ≠ C := fun b hb => ⟨fun e => hb (by rw [e]; exact List.mem_cons_self), fun e => hb (by rw [e]; exact List.mem_cons_of_mem _ List.mem_cons_self)⟩
  have old : ∀ b ob, b ∉ [S, C] → s.heap.get? b = some ob → hq.get? b = some ob := fun b ob hb q => z3 b ob (far b hb).1 (far b hb).2 q
  have tr : ∀ b u, H b = some u → b ≠ S ∧ b ≠ C := fun b u q => ⟨fun e => (by rw [e, nS] at q; cases q), fun e => (by rw [e, nC] at q; cases q)⟩
  have J : Inv X ip σ H { s with heap := hq, gens := gq, drawn := dq, toks := tq } := by
    refine I0.step (g' := gq) (t' := tq) (d' := dq) (ch := [S, C]) (fun b hb => ?_) (fun b ob _ _ hc q _ => old b ob hc q) (fun b ob _ _ hc q _ => ⟨ob.slots, old b ob hc q⟩) (fun _ _ _ _ n => n)
      (fun b ob hc q => ⟨ob, old b ob hc q⟩) (fun _ _ q => q) (fun _ _ _ q => q) (fun b ps q => ⟨#[], by rw [q]; simp⟩) (fun m hm => ?_) (fun b u q => ?_) z2
    · rcases List.mem_cons.mp hb with e | e
      · rw [e]
        exact ⟨.inr F.aS.1, F.aS.2.1, F.aS.2.2, F.pS⟩
      · have e2 := List.mem_singleton.mp e
        rw [e2]
        exact ⟨.inr F.aC.1, F.aC.2.1, F.aC.2.2, F.pC⟩
    · obtain ⟨ob, es, ep, hob, rest⟩ := hm
      exact ⟨ob, es, ep, z3 _ ob (Ne.symm lS) (Ne.symm lC) hob, rest⟩
    · refine (I0.hok b u q).stay (fun e w hc y => ?_) (fun _ y => y) fun _ _ y => y
      have ne : e ≠ S ∧ e ≠ C := by
        rcases hc with y | y
        · rw [y]
          exact tr b u q
        · exact tr e _ y
      exact z3 e w ne.1 ne.2 y
  refine ⟨o', ho', acc.push v, cS, ?_, J.pins_of fun p hp => ?_⟩
  · rw [Array.toList_push]
    exact r.append (.cons rv (.nil))
  · rcases List.mem_cons.mp hp with e | hp
    · rw [e]
      exact ⟨eS', nS, lS, fS, fun v q => by cases q⟩
    · rcases List.mem_cons.mp hp with e | hp
      · rw [e]
        exact ⟨eC', nC, lC, fC, ho'.2⟩
      · exact J.pin p (List.mem_append.mpr (.inr hp))
/-! ### the protocol -/
def YP (X : Cx) (S C : Addr) : Protocol := fun n s₀ v s kap => ∃ ys x ip σ H, n + 1 + ys.length = sizeLine ∧ RelV x v ∧ Run X S C ip ys σ H s ∧ ∀ s', Nap S C v s s' → kap (.send .none) s'
def RP (X : Cx) (S C : Addr) (Q : List V → VK) (F : Value → Shared → Prop) : GenEnd := fun n s₀ r s => match r with
  | .ok (.ret u) => ∃ ys v ip σ H, n + ys.length = sizeLine ∧ Run X S C ip ys σ H s ∧ RelV v u ∧ Q ys v H
  | .ok _ => False
  | .error e => F e s
def FlowP (X : Cx) (S C : Addr) (ip : List (Addr × Obj)) (D : GEnds) (ys : List V) (f : Flow) (s : Shared) : Prop :=
  match f with
  | .next => ∃ σ H, Run X S C ip ys σ H s ∧ D.nx ys σ H
  | .brk => ∃ σ H, Run X S C ip ys σ H s ∧ D.bk ys σ H
  | .cont => ∃ σ H, Run X S C ip ys σ H s ∧ D.ct ys σ H
  | .ret u => ∃ v σ H, Run X S C ip ys σ H s ∧ RelV v u ∧ D.rt ys v H
structure Here (X : Cx) (S C : Addr) (ip : List (Addr × Obj)) (A : Around) (c : Code) (fs : List Frame) (gd : Bool → Bool) : Prop where
  far : Far X S C ip
  over : A.over c fs = X.A
  split : splitAtGen fs = none
  bare : fs.any Frame.guarded = false
  gd : gd false = false
structure Then (X : Cx) (S C : Addr) (ip : List (Addr × Obj)) (A : Around) (R : GenEnd) (c : Code) (fs : List Frame) (K : Flow → Sem PySem.Fin) (J : Value → Sem PySem.Fin) (D : GEnds) : Prop where
  ok : ∀ (n : Nat) (ys : List V) (s₀ s : Shared) (f : Flow), n + ys.length = sizeLine → FlowP X S C ip D ys f s → Seg (model X.prog X.w) A R (YP X S C) n s₀ c (K f) fs s
  exc : ∀ (n : Nat) (s₀ : Shared) (e : Value) (s : Shared), X.xe e s → Seg (model X.prog X.w) A R (YP X S C) n s₀ c (J e) fs s
/-- a tree of the body, wrapped, runs so -/
def Goes (X : Cx) (T : Sem Flow) (t : TGn) : Prop :=
  ∀ (A : Around) (S C : Addr) (ip : List (Addr × Obj)) (R : GenEnd) (n : Nat) (ys : List V) (s₀ : Shared) (c : Code) (fs : List Frame) (K : Flow → Sem PySem.Fin) (J : Value → Sem PySem.Fin) (gd : Bool → Bool) (lv : List Value → List Value) (s : Shared) (σ : L2.St) (H : Hp) (D : GEnds),
    Here X S C ip A c fs gd → n + ys.length = sizeLine → Then X S C ip A R c fs K J D → Run X S C ip ys σ H s → t D ys σ H → Seg (model X.prog X.w) A R (YP X S C) n s₀ c (T.wrap K J gd lv) fs s
section
variable {st : Stmt} {rest : List Stmt} {X : Cx}
theorem flow_of {S C : Addr} {acc : Array Value} {c : Nat} {o : Obj} {ip : List (Addr × Obj)} {s : Shared} {D : GEnds} {ys : List V} {f : Flow} (ho : LocO C o) (r : Vals ys acc.toList) (h : SP X ((S, lstObj acc c) :: (C, o) :: ip) (D.at ys) f s) : FlowP X S C ip D ys f s := by
  cases f with
  | ret u =>
    obtain ⟨v, σ, H, I, r1, q⟩ := h
    exact ⟨v, σ, H, ⟨o, ho, acc, c, r, I⟩, r1, q⟩
  | next =>
    obtain ⟨σ, H, I, q⟩ := h
    exact ⟨σ, H, ⟨o, ho, acc, c, r, I⟩, q⟩
  | brk =>
    obtain ⟨σ, H, I, q⟩ := h
    exact ⟨σ, H, ⟨o, ho, acc, c, r, I⟩, q⟩
  | cont =>
    obtain ⟨σ, H, I, q⟩ := h
    exact ⟨σ, H, ⟨o, ho, acc, c, r, I⟩, q⟩
theorem gb_plain {t : TS} (h : PS X st t) : Goes X (exec st X.env) (tPlain t) := by
  intro A S C ip R n ys s₀ c fs K J gd lv s σ H D g hn k hI ht
  obtain ⟨o, ho, acc, cc, r, I⟩ := hI
  refine seg_wrap ?_
  rw [g.over]
  exact wpAny_mono (h.run _ s σ H (D.at ys) I ht) (fun f s' q => k.ok n ys s₀ s' f hn (flow_of ho r q)) fun x s' q => k.exc n s₀ x s' q
theorem gb_nil : Goes X (execs [] X.env) tG0 := by
  intro A S C ip R n ys s₀ c fs K J gd lv s σ H D g hn k hI ht
  refine seg_execs_nil ?_
  exact k.ok n ys s₀ s .next hn ⟨σ, H, hI, ht⟩
theorem gb_cons {t u : TGn} (a : Goes X (exec st X.env) t) (b : Goes X (execs rest X.env) u) : Goes X (execs (st :: rest) X.env) (tGThen t u) := by
  intro A S C ip R n ys s₀ c fs K J gd lv s σ H D g hn k hI ht
  refine seg_execs_cons (a A S C ip R n ys s₀ c fs _ J gd lv s σ H { D with nx := fun ys' σ' H' => u D ys' σ' H' } g hn ⟨fun n' ys' s₀' s' f hn' q => ?_, k.exc⟩ hI ht)
  cases f with
  | next =>
    obtain ⟨σ', H', I', q⟩ := q
    exact b A S C ip R n' ys' s₀' c fs K J gd lv s' σ' H' D g hn' k I' q
  | ret u => exact k.ok n' ys' s₀' s' (.ret u) hn' q
  | brk => exact k.ok n' ys' s₀' s' .brk hn' q
  | cont => exact k.ok n' ys' s₀' s' .cont hn' q
theorem gb_yield {e : Expr} {yp pos : Pos} {te : TE} (he : PE X e te) (hco : X.env.scope.isCoroutine = false := by rfl) (hi : interactive X.env = false := by rfl) : Goes X (exec (.Expr (.Yield (some e) yp) pos) X.env) (tGYield te) := by
  intro A S C ip R n ys s₀ c fs K J gd lv s σ H D g hn k hI ht
  obtain ⟨room, ht⟩ := ht
  obtain ⟨n, rfl⟩ : ∃ j, n = j + 1 := ⟨n - 1, by omega⟩
  obtain ⟨o, ho, acc, cc, r, I⟩ := hI
  refine seg_Expr_Yield g.split g.gd g.bare ?_ hco hi
  rw [g.over]
  refine wpAny_mono (he.run _ s σ H _ I ht) (fun v s' hv => ?_) fun x s' q => k.exc _ s₀ x s' q
  obtain ⟨y, H1, I1, rv, q⟩ := hv
  have G1 : Run X S C ip ys σ H1 s' := ⟨o, ho, acc, cc, r, I1⟩
  refine fun kap hk => ⟨ys, y, ip, σ, H1, hn, rv, G1, fun s2 z => hk .none s2 (k.ok n (ys ++ [y]) s2 s2 .next ?_ ⟨σ, H1, G1.woken g.far rv z, q⟩)⟩
  rw [List.length_append]
  show n + (ys.length + 1) = _
  omega
end
/-! ### a for amid -/
section
variable {prog : Program} {w : World} {A : Around} {R : GenEnd} {Y : Protocol} {n : Nat} {s₀ s : Shared} {fs : List Frame} {env : Env} {tg : Expr} {it : Value} {body : List Stmt}
/-- an exception out of the loop's code -/
abbrev outX (env : Env) (e : Value) : Sem PySem.Fin := (do noteFrame e env; theTreesLotGoes e : Sem Unit).wrap (fun _ => .raise e) .raise id id
theorem seg_turn (h : wpAny (model prog w) (A.over (.forLoop tg it body [] env) fs) (pyNext it) (fun r s1 => match r with
      | none => Seg (model prog w) A R Y n s₀ (.block [] env) ((model prog w).den (.block [] env)) fs s1
      | some v => wpAny (model prog w) (A.over (.forLoop tg it body [] env) fs) (letOwnedTupleGo tg it v) (fun _ s2 => wpAny (model prog w) (A.over (.forLoop tg it body [] env) fs) (assign tg env v) (fun _ s3 =>
          Seg (model prog w) A R Y n s₀ (.forLoop tg it body [] env) ((execs body env).wrap (fun f => match f with
            | .next | .cont => .pure (.again (.forLoop tg it body [] env))
            | .brk => .pure (.done .next)
            | .ret v => .pure (.done (.ret v))) (outX env) id id) fs s3)
          (fun x s' => Seg (model prog w) A R Y n s₀ (.forLoop tg it body [] env) (outX env x) fs s') s2)
          (fun x s' => Seg (model prog w) A R Y n s₀ (.forLoop tg it body [] env) (outX env x) fs s') s1)
      (fun x s' => Seg (model prog w) A R Y n s₀ (.forLoop tg it body [] env) (outX env x) fs s') s) :
    Seg (model prog w) A R Y n s₀ (.forLoop tg it body [] env) ((model prog w).den (.forLoop tg it body [] env)) fs s := by
  show Seg _ A R Y n s₀ _ ((forTurn tg it body [] env).onRaise (fun x => do noteFrame x env; theTreesLotGoes x)) fs s
  have ex : ∀ (x : Value) (s' : Shared), Seg (model prog w) A R Y n s₀ (.forLoop tg it body [] env) (outX env x) fs s' → Seg (model prog w) A R Y n s₀ (.forLoop tg it body [] env) ((do noteFrame x env; theTreesLotGoes x : Sem Unit).bind fun _ => .raise x) fs s' := fun x s' q => by
    rw [Sem.bind_eq_wrap]
    exact q
  rw [Sem.onRaise_eq_wrap]
  unfold forTurn
  refine seg_bind_wrap (wpAny_standAt (seg_bind_wrap (wpAny_onRaise (wpAny_mono h (fun r s1 h1 => ?_) fun x s' q => wpAny_standAt (ex x s' q)))))
  cases r with
  | none => exact seg_again rfl h1
  | some v =>
    refine seg_bind_wrap (wpAny_mono h1 (fun _ s2 h2 => ?_) fun x s' q => ex x s' q)
    refine seg_bind_wrap (wpAny_mono h2 (fun _ s3 h3 => ?_) fun x s' q => ex x s' q)
    rw [Sem.bind_eq_wrap', Sem.wrap_wrap]
    exact Eq.mpr (congrArg (fun t => Seg (model prog w) A R Y n s₀ (.forLoop tg it body [] env) t fs s3) (Sem.wrap_congr (execs body env) id id (fun f => by cases f <;> rfl) fun e => Sem.bind_eq_wrap _ _)) h3
end
section
variable {X : Cx}
theorem here_in {S C : Addr} {ip : List (Addr × Obj)} {A : Around} {c c' : Code} {fs : List Frame} {gd : Bool → Bool} {k : Result → Sem PySem.Fin} {l kp : List Value} {p : Pos} (g : Here X S C ip A c fs gd) (hw : c'.weight = 0) (hu : c'.cUnits = 0) {ip' : List (Addr × Obj)} (hf : Far X S C ip') :
    Here X S C ip' A c' (.ret k none (gd false) l c p kp :: fs) id := by
  refine ⟨hf, (over_loop hw hu).trans g.over, ?_, ?_, rfl⟩
  · change (splitAtGen fs).map _ = none
    rw [g.split]
    rfl
  · change (gd false || fs.any Frame.guarded) = false
    rw [g.gd, g.bare]
    rfl
theorem seg_back {S C : Addr} {ip : List (Addr × Obj)} {A : Around} {R : GenEnd} {c : Code} {fs : List Frame} {K : Flow → Sem PySem.Fin} {J : Value → Sem PySem.Fin} {gd : Bool → Bool} {lv : List Value → List Value} {D : GEnds} {n : Nat} {s₀ s : Shared} {e : Value}
    (g : Here X S C ip A c fs gd) (k : Then X S C ip A R c fs K J D) (h : cameBackBy (model X.prog X.w) X.A X.env X.xe e s) :
    Seg (model X.prog X.w) A R (YP X S C) n s₀ c (((Sem.raise e : Sem Flow).onRaise (cameBack X.env)).wrap K J gd lv) fs s := by
  show Seg _ _ _ _ n s₀ c (((cameBack X.env e).bind fun _ => (Sem.raise e : Sem Flow)).wrap K J gd lv) fs s
  rw [Sem.bind_eq_wrap (cameBack X.env e), Sem.wrap_wrap]
  refine seg_wrap ?_
  rw [g.over]
  refine wpAny_mono h (fun _ s2 q => ?_) fun x s2 q => k.exc n s₀ x s2 q
  exact k.exc n s₀ e s2 q
def tGFor (wi : TI) (g : TG) (tb : TGn) : TGn := fun D ys σ H => wi σ H fun J H1 => ∃ W : Nat → Nat → List V → L2.St → Hp → Prop, (∃ m, W 0 m ys σ H1) ∧ ∀ i m ys σ H, W i m ys σ H →
  (J.stop i H ∧ D.nx ys σ H) ∨ (J.go i H ∧ ∃ N : List V → L2.St → Hp → Prop, (∀ ys' σ' H', N ys' σ' H' → ∃ m', m' < m ∧ W (i + 1) m' ys' σ' H') ∧ ∀ x H', J.yld i H x H' → g x σ H' fun σ2 H2 => tb { D with nx := N, ct := N, bk := D.nx } ys σ2 H2)
theorem Run.unpin {S C : Addr} {ip : List (Addr × Obj)} {fp : List Addr} {h : Heap} {ys : List V} {σ : L2.St} {H : Hp} {s : Shared} (q : Run X S C (ip ++ pinsAt fp h) ys σ H s) : Run X S C ip ys σ H s :=
  let ⟨o, ho, acc, c, r, I⟩ := q
  ⟨o, ho, acc, c, r, (show Inv X (((S, lstObj acc c) :: (C, o) :: ip) ++ pinsAt fp h) σ H s from I).unpinned⟩
theorem gb_for {tg iter : Expr} {body : List Stmt} {wi : TI} {g : TG} {tb : TGn} {pos : Pos} (hp : PassesOwn (model X.prog X.w) X.A X.env X.xe) (hc : X.calm = true) (hi : PI X tg iter wi) (hg : PG X tg g) (hb : Goes X (execs body X.env) tb)
    (hs : ∀ x, foldedSetIterable iter X.env x = pure x := by intro _; rfl) : Goes X (exec (.For tg iter body [] pos) X.env) (tGFor wi g tb) := by
  intro A S C ip R n ys s₀ c fs K J gd lv s σ H D gh hn k hI ht
  obtain ⟨o, ho, acc, cc, r, I⟩ := hI
  rw [exec_For]
  refine seg_bind_wrap (wpAny_standAt (seg_bind_wrap ?_))
  rw [gh.over]
  refine wpAny_mono (hi.run _ s σ H _ I ht) (fun v s1 h1 => ?_) fun x s' q => k.exc n s₀ x s' q
  refine seg_bind_wrap (wpAny_of_eq (hs v) (seg_bind_wrap (wpAny_standAt (seg_bind_wrap (wpAny_holding ?_)))))
  rw [gh.over]
  refine wpAny_mono h1 (fun itv s2 h2 => ?_) fun x s' q => k.exc n s₀ x s' q
  obtain ⟨it, fp, tn, Jt, H2, e, I2, T, st2, f2, W, ⟨m0, w0⟩, turn⟩ := h2
  subst e
  refine seg_call fun p => ?_
  -- where the iterator's own objects lie
  have apart : ∀ b ∈ fp, (b ≠ X.env.locals ∧ b ∉ X.fs ∧ (b ∈ X.ex ∨ X.s_0.heap.objs.size ≤ b) ∧ ∀ x c, X.env.cells.lookup x = some c → c ≠ b) ∧ S ≠ b ∧ C ≠ b ∧ ∀ q ∈ X.pn ++ ip, q.1 ≠ b := fun b hb => by
    obtain ⟨_, z1, z2, z3, z4, z5⟩ := f2 b hb
    refine ⟨⟨z1, z2, z3, z4⟩, z5 (S, lstObj acc cc) (List.mem_append_right _ List.mem_cons_self), z5 (C, o) (List.mem_append_right _ (List.mem_cons_of_mem _ List.mem_cons_self)), fun q hq => ?_⟩
    rcases List.mem_append.mp hq with y | y
    · exact z5 q (List.mem_append_left _ y)
    · exact z5 q (List.mem_append_right _ (List.mem_cons_of_mem _ (List.mem_cons_of_mem _ y)))
  have stat : ∀ {acc' : Array Value} {c' : Nat} {o' : Obj} {H' : Hp}, (∀ b ∈ fp, H' b = none) → ∀ b ∈ fp, FpOk X ((S, lstObj acc' c') :: (C, o') :: ip) H' b := fun {acc' c' o' H'} hn b hb => by
    obtain ⟨⟨z1, z2, z3, z4⟩, z5, z6, z7⟩ := apart b hb
    refine ⟨hn b hb, z1, z2, z3, z4, fun q hq => ?_⟩
    rcases List.mem_append.mp hq with y | y
    · exact z7 q (List.mem_append_left _ y)
    · rcases List.mem_cons.mp y with y | y
      · rw [y]
        exact z5
      · rcases List.mem_cons.mp y with y | y
        · rw [y]
          exact z6
        · exact z7 q (List.mem_append_right _ y)
  have farP : ∀ h : Heap, Far X S C (ip ++ pinsAt fp h) := fun h => by
    have ofP : ∀ q ∈ X.pn ++ (ip ++ pinsAt fp h), q ∈ X.pn ++ ip ∨ q.1 ∈ fp := fun q hq => by
      rcases List.mem_append.mp hq with y | y
      · exact .inl (List.mem_append_left _ y)
      · rcases List.mem_append.mp y with y | y
        · exact .inl (List.mem_append_right _ y)
        · refine .inr ?_
          unfold pinsAt at y
          obtain ⟨b, hb, eb⟩ := List.mem_filterMap.mp y
          cases eo : h.get? b with
          | none =>
            rw [eo] at eb
            cases eb
          | some ob =>
            rw [eo] at eb
            cases eb
            exact hb
    exact ⟨gh.far.ne, gh.far.aS, gh.far.aC, fun q hq => (ofP q hq).elim (gh.far.pS q) fun y => (apart q.1 y).2.1.symm, fun q hq => (ofP q hq).elim (gh.far.pC q) fun y => (apart q.1 y).2.2.1.symm⟩
  have hl := fun (kk : Result → Sem PySem.Fin) (ip' : List (Addr × Obj)) (hf : Far X S C ip') => here_in (k := kk) (c' := .forLoop tg (.ref it) body [] X.env) (l := lv []) (kp := []) (p := p) gh rfl rfl hf
  have loop : ∀ (m n i : Nat) (ys : List V) (s₀ s : Shared) (σ : L2.St) (H : Hp), n + ys.length = sizeLine → W i m ys σ H → Run X S C ip ys σ H s → tn i s.heap → (∀ b ∈ fp, H b = none) →
      Seg (model X.prog X.w) A R (YP X S C) n s₀ (.forLoop tg (.ref it) body [] X.env) ((model X.prog X.w).den (.forLoop tg (.ref it) body [] X.env))
        (.ret (fun z => ((match z with | .ok f => (.pure f : Sem Flow) | .error e => .raise e).onRaise (cameBack X.env)).wrap K J gd lv) none (gd false) (lv []) c p [] :: fs) s := by
    intro m
    refine Nat.strongRecOn m fun m ih => ?_
    · intro n i ys s₀ s σ H hn w ⟨o, ho, acc, cc, r, I⟩ st fr
      have ee : ∀ (n : Nat) (s₀ : Shared) (x : Value) (s' : Shared), X.xe x s' → Seg (model X.prog X.w) A R (YP X S C) n s₀ (.forLoop tg (.ref it) body [] X.env) (outX X.env x)
          (.ret (fun z => ((match z with | .ok f => (.pure f : Sem Flow) | .error e => .raise e).onRaise (cameBack X.env)).wrap K J gd lv) none (gd false) (lv []) c p [] :: fs) s' := fun n s₀ x s' hx => by
        refine seg_wrap ?_
        rw [(hl _ ip gh.far).over]
        refine wpAny_bind (wpAny_mono (hp x s' hx) (fun _ s2 q => wpAny_theTreesLotGoes ?_) fun y s2 q => ?_)
        · exact seg_leaf (.error x) (seg_back gh k q)
        · exact seg_leaf (.error y) (seg_back gh k q)
      refine seg_turn ?_
      rw [(hl _ ip gh.far).over]
      rcases turn i m ys σ H w with ⟨halt, q⟩ | ⟨go, N, hN, step⟩
      · refine wpAny_mono (T.done X rfl rfl rfl hc i _ s σ H X.xe I (stat fr) st halt) (fun z s4 ⟨hz, I4⟩ => ?_) fun x s' q => ee n s₀ x s' q
        subst hz
        exact seg_leaf (.ok .next) (k.ok n ys s₀ s4 .next hn ⟨σ, H, ⟨o, ho, acc, cc, r, I4⟩, q⟩)
      · refine wpAny_mono (T.item X rfl rfl rfl hc i _ s σ H X.xe I (stat fr) st go) (fun z s4 ⟨u, hz, h4⟩ => ?_) fun x s' q => ee n s₀ x s' q
        subst hz
        refine wpAny_mono h4 (fun _ s5 ⟨x, H5, I5, r5, y5, st5, fr5⟩ => ?_) fun x s' q => ee n s₀ x s' q
        refine wpAny_mono (hg.run _ s5 σ H5 x u _ (I5.pinned (stat fr5) (T.obj _ _ st5)) r5 (step x H5 y5)) (fun _ s6 ⟨σ6, H6, I6, q6⟩ => ?_) fun x s' q => ee n s₀ x s' q
        have next : ∀ {n' : Nat} {ys' : List V} {s₀' s7 : Shared}, n' + ys'.length = sizeLine → (∃ σ' H', Run X S C (ip ++ pinsAt fp s5.heap) ys' σ' H' s7 ∧ N ys' σ' H') →
            Seg (model X.prog X.w) A R (YP X S C) n' s₀' (.forLoop tg (.ref it) body [] X.env) (.pure (.again (.forLoop tg (.ref it) body [] X.env)))
              (.ret (fun z => ((match z with | .ok f => (.pure f : Sem Flow) | .error e => .raise e).onRaise (cameBack X.env)).wrap K J gd lv) none (gd false) (lv []) c p [] :: fs) s7 := fun {n' ys' s₀' s7} hn' ⟨σ7, H7, R7, n7⟩ => by
          obtain ⟨m', hm, w7⟩ := hN ys' σ7 H7 n7
          have pin7 : ∀ b ∈ fp, ∀ ob, s5.heap.get? b = some ob → s7.heap.get? b = some ob ∧ H7 b = none := fun b hb ob e => by
            obtain ⟨o7, ho7, acc7, c7, r7, I7⟩ := R7
            have z := I7.pin (b, ob) (List.mem_append_right _ (List.mem_cons_of_mem _ (List.mem_cons_of_mem _ (List.mem_append_right _ (mem_pinsAt hb e)))))
            exact ⟨z.1, z.2.1⟩
          refine seg_again rfl (ih m' hm n' (i + 1) ys' s₀' s7 σ7 H7 hn' w7 R7.unpin (T.keep _ _ _ st5 fun b hb ob e => (pin7 b hb ob e).1) fun b hb => ?_)
          obtain ⟨ob, e, _⟩ := T.obj _ _ st5 b hb
          exact (pin7 b hb ob e).2
        refine hb A S C (ip ++ pinsAt fp s5.heap) R n ys s₀ _ _ _ _ id id s6 σ6 H6 { D with nx := N, ct := N, bk := D.nx } (hl _ _ (farP s5.heap)) hn ⟨fun n' ys' s₀' s7 f hn' q => ?_, fun n' s₀' x s7 q => ee n' s₀' x s7 q⟩ ⟨o, ho, acc, cc, r, I6⟩ q6
        cases f with
        | next => exact next hn' q
        | cont => exact next hn' q
        | brk =>
          obtain ⟨σ7, H7, R7, q⟩ := q
          exact seg_leaf (.ok .next) (k.ok n' ys' s₀' s7 .next hn' ⟨σ7, H7, R7.unpin, q⟩)
        | ret u =>
          obtain ⟨v7, σ7, H7, R7, r7, q⟩ := q
          exact seg_leaf (.ok (.ret u)) (k.ok n' ys' s₀' s7 (.ret u) hn' ⟨v7, σ7, H7, R7.unpin, r7, q⟩)
  exact loop m0 n 0 ys s₀ s2 σ H2 hn w0 ⟨o, ho, acc, cc, r, I2⟩ st2 fun b hb => (f2 b hb).1
end
end Cc

/-! A generator def that raises nothing, drained by a comprehension [x for x in f(..)]. -/
namespace Cc
open PySem PySem.Spec PyProof.Rows L2 GenW
/-- no exception is promised -/
abbrev noE : XK := fun _ _ _ => False
/-- arguments, the heap, what is wanted of all items and the heap at the end -/
abbrev SpY := List V → Hp → (List V → Hp → Prop) → Prop
def StopY (P : Program) (w : World) (outer : List Env) (H : Hp) (s : Shared) (S C : Addr) (Q : List V → Hp → Prop) (s1 : Shared) : Prop :=
  ∃ H' ys acc c oC, s1.os = s.os ∧ AllBare s1.gens ∧ Un (frs outer) [] H H' s.heap s1.heap ∧ HOk P w H' s1.heap ∧ (H' S = none ∧ s1.heap.get? S = some (lstObj acc c)) ∧ (Vals ys acc.toList ∧ ys.length ≤ sizeLine) ∧ (H' C = none ∧ LocO C oC ∧ s1.heap.get? C = some oC) ∧ Q ys H'
def EndY (P : Program) (w : World) (outer : List Env) (H : Hp) (s : Shared) (S C a : Addr) (g : Nat) (Q : List V → Hp → Prop) : GenEnd := fun n s₀ r s1 =>
  ((r = .ok (.ret .none) ∨ r = .ok .next) ∧ StopY P w outer H s S C Q s1) ∨ ∃ e, r = .error e ∧ False
def ItemY (s : Shared) (S C a : Addr) (g : Nat) : Protocol := fun n s₀ v s1 kap =>
  s1.os = s.os ∧ AllBare s1.gens ∧ s1.heap.NoLimit ∧ s1.heap.IsGen a g ∧ (∃ (acc : Array Value) (c : Nat), s1.heap.get? S = some (lstObj acc c) ∧ n + 1 + acc.size = sizeLine) ∧ (∃ oC, LocO C oC ∧ s1.heap.get? C = some oC) ∧ ∀ s', Nap S C v s1 s' → kap (.send .none) s'
/-- a generator that has not begun -/
def MadeY (P : Program) (w : World) (k : Nat) (outer : List Env) (H : Hp) (s : Shared) (Q : List V → Hp → Prop) (u : Value) (s' : Shared) : Prop :=
  ∃ (a : Addr) (g : Nat) (c : Code), u = .ref a ∧ (s.heap.objs.size ≤ a ∧ a < s'.heap.objs.size) ∧ s'.heap.IsGen a g ∧ s'.gens[g]? = some (.fresh c) ∧ s'.os = s.os ∧ AllBare s'.gens ∧ s'.heap.NoLimit ∧ (∀ b o, s.heap.get? b = some o → s'.heap.get? b = some o) ∧
    ∀ (A : Around) (S C : Addr) (s2 : Shared), Room k A → A.frames = some outer → s'.heap.objs.size ≤ S → s'.heap.objs.size ≤ C → S ≠ C → (∀ b o, s'.heap.get? b = some o → s2.heap.get? b = some o) → (∃ c, s2.heap.get? S = some (lstObj #[] c)) → (∃ o, LocO C o ∧ s2.heap.get? C = some o) → s2.os = s.os → AllBare s2.gens →
      Seg (model P w) A (EndY P w outer H s S C a g Q) (ItemY s S C a g) sizeLine s2 c ((model P w).den c) [] s2
structure GenY (P : Program) (w : World) (K : PySem.W.Frag) (mg : Str → Option Value) (base : Heap) (k : Nat) (f : Addr) (fd : FuncData) (ps : List Str) (sp : SpY) : Prop where
  len : ∀ vs H Q, sp vs H Q → vs.length = ps.length
  run : ∀ (A : Around) (outer : List Env) (s : Shared) (H : Hp) (args : Args) (us : List Value) (vs : List V) (Q : List V → Hp → Prop), Room k A → Env0 P w K mg base A outer s H → BindsTo s fd args (ps.zip us) → Vals vs us → sp vs H Q →
    codeAny (model P w) A (.call (.ref f) args) (fun r s' => match r with | .ok (.ret u) => MadeY P w k outer H s Q u s' | _ => False) s
theorem geny_of {P : Program} {w : World} {K : PySem.W.Frag} {mg : Str → Option Value} {base : Heap} {k : Nat} {f : Addr} {name qual : Str} {params : Arguments} {body : List Stmt} {scope : Scope} {dV kV doc pm cdv ct oc : Value} {an od : Option Addr}
    {osl : Array (Option Value)} {N ps : List Str} {sp : SpY} (lk : K.lookup f = some ⟨oc, od, .func (PySem.W.fnOf name qual params body scope dV kV doc pm an cdv ct), osl⟩) (hcd : PySem.W.codeIn K cdv qual = true) (G : GScope N ps scope) (len : ∀ vs H Q, sp vs H Q → vs.length = ps.length)
    (hbody : ∀ (A : Around) (outer : List Env) (s : Shared) (H : Hp) (vs : List V) (Q : List V → Hp → Prop) (pn : List (Addr × Obj)), Room k (A.deeper (envOfC qual scope s.heap.objs.size f cdv)) → sp vs H Q →
      ∃ t, Goes (gcxOf P w K mg base N qual scope f cdv A outer s H noE pn) (execs body (gcxOf P w K mg base N qual scope f cdv A outer s H noE pn).env) t ∧ t { nx := fun ys _ H' => Q ys H', rt := fun ys v H' => v = .non ∧ Q ys H' } [] (start N vs) H) :
    GenY P w K mg base (k + 1) f (PySem.W.fnOf name qual params body scope dV kV doc pm an cdv ct) ps sp := by
  refine ⟨len, fun A outer s H args us vs Q hr e0 hb r hsp => ?_⟩
  have hl := len _ _ _ hsp
  have inK : K.In s.heap := e0.mod.kin.keeps fun b o e => (e0.bs b o e).1
  have nolim : s.heap.NoLimit := e0.mod.nolimit.keeps fun b o e => (e0.bs b o e).1
  refine codeAny_call_generator hr.depth (inK _ _ lk) rfl G.co G.gen rfl (PySem.W.codeRec_of inK hcd) (hb _ _ _ _ ?_)
  refine wpAny_newFunctionEnv_cells G.kind (fun ⟨y, v⟩ hy => (G.par y (List.of_mem_zip hy).1).imp id fun q => ⟨q, PySem.W.cellsFrom_some _ _ _ (.inl q)⟩) fun env he s1 x => ?_
  subst he
  have nolim1 : s1.heap.NoLimit := nolim.keeps x.toInCall.keep
  refine ⟨nolim1, ?_⟩
  obtain ⟨h1, tk1, es1, hk1⟩ := x.done
  have osE : s1.os = s.os := by rw [es1]
  have genE : s1.gens = s.gens := by rw [es1]
  have ltE : s.heap.objs.size < s1.heap.objs.size := x.toInCall.ns.lt
  have main : ∀ (gob : Obj) (n1 n2 : Value) (tk2 : Nat), gob.cls = .type "generator" → gob.data = .fields #[.int s1.gens.size 0, n1, n2] → gob.slots = #[] → (∀ h : Heap, (h.push gob).get? h.objs.size = some gob) →
      MadeY P w (k + 1) outer H s Q (.ref s1.heap.objs.size) { s1 with gens := s1.gens.push (.fresh (.func body (envOfC qual scope s.heap.objs.size f cdv))), toks := tk2, heap := s1.heap.push gob } := by
    intro gob n1 n2 tk2 y1 y2 y3 y4
    have isG : ∀ h : Heap, h.get? s1.heap.objs.size = some gob → h.IsGen s1.heap.objs.size s1.gens.size := fun h e => ⟨gob, n1, n2, e, y1, y2, y3⟩
    refine ⟨s1.heap.objs.size, s1.gens.size, _, rfl, ⟨Nat.le_of_lt ltE, ?_⟩, isG _ (y4 _), Array.getElem?_push_size .., osE, ?_, nolim1.keeps fun b o e => Heap.get?_push_of_some _ e, fun b o e => Heap.get?_push_of_some _ (x.toInCall.keep b o e), ?_⟩
    · show s1.heap.objs.size < (s1.heap.push gob).objs.size
      rw [Heap.size_push]
      exact Nat.lt_succ_self _
    · exact AllBare.push (by rw [genE]; exact e0.bare) rfl
    intro Aw S C s2 hrw hfr hS hC hSC old hSo hCo hos hba
    have e2 : Env0 P w K mg base Aw outer s H := ⟨hfr, e0.mod, e0.bs, e0.bsz, e0.funs, e0.frf, e0.hok, e0.bare⟩
    obtain ⟨t, ht, hq⟩ := hbody Aw outer s H vs Q [(s1.heap.objs.size, gob)] (hrw.deeper _) hsp
    have I1 : Inv (gcxOf P w K mg base N qual scope f cdv Aw outer s H noE []) [] (start N vs) H s1 := inv_startG G hrw.hd e2 hl r x
    have old1 : ∀ b o, s1.heap.get? b = some o → s2.heap.get? b = some o := fun b o e => old b o (Heap.get?_push_of_some _ e)
    have I2 : Inv (gcxOf P w K mg base N qual scope f cdv Aw outer s H noE []) [] (start N vs) H s2 :=
      I1.call' (ch := []) (hos.trans osE.symm) (Un.kept old1) (I1.hok.kept old1) hba fun b z => nomatch z
    have above : ∀ b, (s1.heap.push gob).objs.size ≤ b → s1.heap.objs.size < b := fun b hb => by
      rw [Heap.size_push] at hb
      exact hb
    have ltS := above S hS
    have ltC := above C hC
    obtain ⟨cS, eS⟩ := hSo
    obtain ⟨oC, hoC, eC⟩ := hCo
    have young : ∀ b, s1.heap.objs.size ≤ b → H b = none ∧ b ≠ s.heap.objs.size ∧ b ∉ frs outer ∧ s.heap.objs.size ≤ b ∧ ∀ y c, (cellsFrom (s.heap.objs.size + 1) scope.names []).lookup y = some c → c ≠ b := fun b hb =>
      ⟨I1.hok.fresh hb, Nat.ne_of_gt (Nat.lt_of_lt_of_le ltE hb), I1.nofs hb, Nat.le_trans (Nat.le_of_lt ltE) hb, fun y c e z => by
        obtain ⟨v, ox, hox, _⟩ := I1.cell y c e
        have lt := Heap.lt_size hox
        rw [z] at lt
        exact Nat.lt_irrefl _ (Nat.lt_of_lt_of_le lt hb)⟩
    have ap : ∀ b, s1.heap.objs.size < b → Apart (gcxOf P w K mg base N qual scope f cdv Aw outer s H noE [(s1.heap.objs.size, gob)]) b := fun b hb =>
      let ⟨_, z2, _, z4, z5⟩ := young b (Nat.le_of_lt hb)
      ⟨z4, z2, z5⟩
    have far : Far (gcxOf P w K mg base N qual scope f cdv Aw outer s H noE [(s1.heap.objs.size, gob)]) S C [] :=
      ⟨hSC, ap S ltS, ap C ltC, fun p hp => by rw [List.mem_singleton.mp hp]; exact Nat.ne_of_lt ltS, fun p hp => by rw [List.mem_singleton.mp hp]; exact Nat.ne_of_lt ltC⟩
    have R0 : Run (gcxOf P w K mg base N qual scope f cdv Aw outer s H noE [(s1.heap.objs.size, gob)]) S C [] [] (start N vs) H s2 := by
      refine ⟨oC, hoC, #[], cS, .nil, Inv.pinnedG I2 fun p hp => ?_⟩
      rcases List.mem_append.mp hp with zl | zr
      · rw [List.mem_singleton.mp zl]
        obtain ⟨z1, z2, z3, _⟩ := young s1.heap.objs.size (Nat.le_refl _)
        exact ⟨old _ _ (y4 _), z1, z2, z3, fun v q => by rw [y2] at q; cases q⟩
      · rcases List.mem_cons.mp zr with zh | zt
        · rw [zh]
          obtain ⟨z1, z2, z3, _⟩ := young S (Nat.le_of_lt ltS)
          exact ⟨eS, z1, z2, z3, fun v q => by cases q⟩
        · rw [List.mem_singleton.mp zt]
          obtain ⟨z1, z2, z3, _⟩ := young C (Nat.le_of_lt ltC)
          exact ⟨eC, z1, z2, z3, hoC.2⟩
    -- what a state of the run tells
    have told : ∀ {ip : List (Addr × Obj)} {ys : List V} {s' : Shared} {σ' : L2.St} {H' : Hp}, Run (gcxOf P w K mg base N qual scope f cdv Aw outer s H noE [(s1.heap.objs.size, gob)]) S C ip ys σ' H' s' →
        s'.os = s.os ∧ AllBare s'.gens ∧ s'.heap.NoLimit ∧ s'.heap.IsGen s1.heap.objs.size s1.gens.size ∧ Un (frs outer) [] H H' s.heap s'.heap ∧ HOk P w H' s'.heap ∧ ∃ acc c o, (H' S = none ∧ s'.heap.get? S = some (lstObj acc c)) ∧ Vals ys acc.toList ∧ (H' C = none ∧ LocO C o ∧ s'.heap.get? C = some o) := fun {ip ys s' σ' H'} ⟨o, ho, acc, c, ra, J⟩ => by
      have zS := J.pin (S, lstObj acc c) (List.mem_append_right _ List.mem_cons_self)
      have zC := J.pin (C, o) (List.mem_append_right _ (List.mem_cons_of_mem _ List.mem_cons_self))
      exact ⟨J.os, J.bare, J.nolimit, isG _ (J.pin (s1.heap.objs.size, gob) (List.mem_append_left _ List.mem_cons_self)).1, J.base, J.hok, acc, c, o, ⟨zS.2.1, zS.1⟩, ra, zC.2.1, ho, zC.1⟩
    refine seg_func (seg_imp (R := RP (gcxOf P w K mg base N qual scope f cdv Aw outer s H noE [(s1.heap.objs.size, gob)]) S C (fun ys v H' => v = .non ∧ Q ys H') fun _ _ => False)
      (Y := YP (gcxOf P w K mg base N qual scope f cdv Aw outer s H noE [(s1.heap.objs.size, gob)]) S C) (fun n s₀ r s3 hR => ?_) (fun n s₀ v s3 kap kap' hkk hY => ?_) sizeLine ?_)
    · cases r with
      | error e => exact hR.elim
      | ok fl =>
        cases fl with
        | next => exact hR.elim
        | brk => exact hR.elim
        | cont => exact hR.elim
        | ret u =>
          obtain ⟨ys, v, ip, σz, H', hn, hI, rv, ev, hQ⟩ := hR
          subst ev
          cases (show u = Value.none from rv)
          obtain ⟨t1, t2, _, _, t5, t6, acc, c, o, t7, t8, t9⟩ := told hI
          exact .inl ⟨.inl rfl, H', ys, acc, c, o, t1, t2, t5, t6, t7, ⟨t8, by omega⟩, t9, hQ⟩
    · obtain ⟨ys, xx, ip, σ', H', hn, _, hI, h3⟩ := hY
      obtain ⟨t1, t2, t3, t4, _, _, acc, c, o, t7, t8, t9⟩ := told hI
      have many : acc.size = ys.length := by
        have z1 := t8.length
        rw [Array.length_toList] at z1
        exact z1.symm
      exact ⟨t1, t2, t3, t4, ⟨acc, c, t7.2, by rw [many]; exact hn⟩, ⟨o, t9.2⟩, fun s' z => hkk _ _ (h3 s' z)⟩
    · refine ht Aw S C [] _ sizeLine [] s2 _ [] _ _ id id s2 (start N vs) H _ ⟨far, over_func, rfl, rfl, rfl⟩ (Nat.add_zero _) ⟨fun n ys s₀ s' fl hn hs => ?_, fun n s₀ e s' hx => ?_⟩ R0 hq
      · cases fl with
        | next =>
          obtain ⟨σ', H', hI, hQ⟩ := hs
          exact seg_end (.ok (.ret .none)) ⟨ys, .non, _, σ', H', hn, hI, rfl, rfl, hQ⟩
        | ret u =>
          obtain ⟨v, σz, H', hI, rv, ev, hQ⟩ := hs
          exact seg_end (.ok (.ret u)) ⟨ys, v, _, σz, H', hn, hI, rv, ev, hQ⟩
        | brk => exact hs.elim fun _ q => q.elim fun _ q => q.2.elim
        | cont => exact hs.elim fun _ q => q.elim fun _ q => q.2.elim
      · refine seg_wrap ?_
        rw [over_func]
        refine wpAny_mono (show wpAny (model P w) (Aw.deeper (envOfC qual scope s.heap.objs.size f cdv)) (leaving (envOfC qual scope s.heap.objs.size f cdv) e) (fun _ s3 => CX P w outer H s noE e s3 ∧ ∀ p ∈ [(s1.heap.objs.size, gob)], s3.heap.get? p.1 = some p.2) (fun _ _ => False) s' from hx) (fun _ s3 q => ?_) fun _ s3 q => q.elim
        obtain ⟨⟨_, _, _, _, _, _, _, _, _, _, _, _, z⟩, _⟩ := q
        exact z.elim
  exact main _ _ _ _ rfl rfl rfl fun _ => Heap.get?_push_size _ rfl
section
variable {X : Cx} {k : Nat}
structure PGenY (X : Cx) (k : Nat) (e : Expr) (tg : TGen) : Prop where
  run : ∀ (pins : List (Addr × Obj)) (s : Shared) (σ : L2.St) (H : Hp) (cont : List V → Hp → Prop), Inv X pins σ H s → tg σ H cont → wpAny (model X.prog X.w) X.A (eval e X.env) (fun u s' => ∃ H1 sc, Inv X pins σ H1 sc ∧ MadeY X.prog X.w k X.stack H1 sc cont u s') X.xe s
def tCallY (sp : SpY) (t : TA) : TGen := fun σ H cont => t σ H fun vs H1 => sp vs H1 cont
theorem pgy_call {f : Addr} {fd : FuncData} {ps : List Str} {sp : SpY} {x : Str} {p pos' : Pos} {e : Expr} {es : List Expr} {t : TA} (F : GenY X.prog X.w X.K X.mg X.base k f fd ps sp) (hr : Room k X.A) (hg : Gl X x) (hm : X.mg x = some (.ref f)) (hk : PySem.W.keepIn X.K (.ref f) = true) (hb : Binds X.K fd ps [])
    (ha : PA X (e :: es) t) (he : starEach (e :: es) X.env = (false, eval e X.env) :: starEach es X.env := by rfl) (hpl : (backTo pos' (starEach es X.env)).any (·.1) = false := by rfl) (hdb : (x == ("__debug__" : Str)) = false := by decide) :
    PGenY X k (.Call (.Name x p) (e :: es) [] pos') (tCallY sp t) := by
  refine ⟨fun pins s σ H cont I h => wpAny_Call_Name_kw (ld_glob I hg hm ?_ hdb)⟩
  refine PySem.W.callWith_K (h₀ := X.base) I.ok.mod.kin hk (thn (ha.run pos' pins s σ H _ I h) fun us z1 ⟨vs, H1, I1, r, q⟩ => ⟨I1.kIn, ?_⟩) he hpl
  have hl : us.length = ps.length := by
    rw [← r.length]
    exact F.len _ _ _ q
  have bt := hb z1 us I1.kIn (by rw [List.append_nil]; exact hl)
  rw [List.append_nil] at bt
  refine wpAny_call (codeAny_mono (F.run X.A X.stack z1 H1 ⟨us, []⟩ us vs cont hr I1.env0 bt r q) fun z s2 hz => ?_)
  cases z with
  | error e => exact hz.elim
  | ok fl =>
    cases fl with
    | ret u => exact ⟨H1, z1, I1, hz⟩
    | next => exact hz.elim
    | brk => exact hz.elim
    | cont => exact hz.elim
theorem lcY_core {pins : List (Addr × Obj)} {s : Shared} {σ : L2.St} {H : Hp} {Q : VK} {e : Expr} {tg : TGen} {x : Str} {p1 p2 pos pos' : Pos} {sc : Scope} {own : List (Str × Nat)} {use : Option (Value → Sem Unit)} {Qf : Value → Shared → Prop} (hgen : PGenY X k e tg) (hr : Room (k + 1) X.A) (hN : X.N.Nodup) (ok : BlkOk X.N X.env.scope sc own) (hx : sc.names.lookup x = some .local)
    (hdb : (x == ("__debug__" : Str)) = false) (hs : ∀ y, foldedSetIterable e X.env y = pure y) (I : Inv X pins σ H s) (h : tListG tg σ H Q)
    (hRR : ∀ D C z m G, Inv X pins σ G z → Q (.ref D) G → z.heap.Ns C m → FpOk X pins G C → compPost (model X.prog X.w) X.A X.xe use Qf (.ref D) C (.ok .next) z) :
    wpAny (model X.prog X.w) X.A (comprehension (.ListComp (.Name x p1) [⟨.Name x p2, e, [], 0⟩] sc pos) sc X.env pos' (newList []) false (eval e X.env) use) Qf X.xe s := by
  have frees : ∀ y ∈ sc.names, y.2 = .free → ∃ c, X.env.cells.lookup y.1 = some c := fun y hy e => I.ok.has _ ((ok.free y hy e).elim (fun a => .inl a) fun a => .inr a)
  refine wpAny_comprehension_free (use := use) rfl hs (closure_ok frees) ok.kind (fun y hy e => (ok.uniq y hy).trans (congrArg some e)) (thn (hgen.run pins s σ H _ I h) fun u s1 ⟨H1, sc0, I1, a, g, cd, eu, ⟨ge1, ge2⟩, hg, hgs, hos, hb, hl, old, wake⟩ => ?_)
  subst eu
  refine wpAny_pyIter_gen hg (wpAny_newObj_type (newEnv_comp ?_) (by show 0 ≤ sizeLine; decide))
  obtain ⟨D, hD⟩ : ∃ D, D = s1.heap.objs.size := ⟨_, rfl⟩
  rw [← hD]
  have I2 : Inv X pins σ H1 s1 := I1.call' (ch := []) hos (Un.kept old) (I1.hok.kept old) hb fun b z => nomatch z
  obtain ⟨s3, hs3⟩ : ∃ s3 : Shared, s3 = { s1 with heap := s1.heap.push { cls := .type "list", data := .seq ([] : List Value).toArray } } := ⟨_, rfl⟩
  have p3 : s3.heap = s1.heap.push { cls := .type "list", data := .seq ([] : List Value).toArray } := by rw [hs3]
  have keep3 : ∀ b o, s1.heap.get? b = some o → s3.heap.get? b = some o := fun b o e => by
    rw [p3]
    exact Heap.get?_push_of_some (h := s1.heap) _ e
  have at3 : s3.heap.get? D = some (lstObj #[] 0) := by
    rw [p3, hD]
    exact Heap.get?_push_size s1.heap rfl
  have I3 : Inv X pins σ (upd H1 D (.lst [])) s3 := by
    rw [hs3]
    refine I2.laid (t' := s1.toks) (fun b o e => Heap.get?_push_of_some _ e) (Nat.le_of_eq hD.symm) ⟨Nat.zero_le _, [], 0, .nil, ?_⟩
    rw [hD]
    exact Heap.get?_push_size s1.heap rfl
  have I4 := block_start (fp := []) I3 ok hN fun b hb => nomatch hb
  have goal : codeAny (model X.prog X.w) X.A (.compStart (.ListComp (.Name x p1) [⟨.Name x p2, e, [], 0⟩] sc pos) 0 (.ref a) (.ref D) (compEnvC sc (cellsFrom (s3.heap.objs.size + 1) sc.names (cloFrom X.env.cells sc.names [])) s3.heap.objs.size X.env))
      (compPost (model X.prog X.w) X.A X.xe use Qf (.ref D) s3.heap.objs.size) { s3 with heap := pushCells (s3.heap.push { cls := .type "dict", data := .dict #[] }) sc.names } := by
    have hkx : (compEnvC sc (cellsFrom (s3.heap.objs.size + 1) sc.names (cloFrom X.env.cells sc.names [])) s3.heap.objs.size X.env).kindOf x = some .local := lookup_relabel_local hx
    have hkf : (compEnvC sc (cellsFrom (s3.heap.objs.size + 1) sc.names (cloFrom X.env.cells sc.names [])) s3.heap.objs.size X.env).scope.kind = .function := ok.kind
    have hlo : (compEnvC sc (cellsFrom (s3.heap.objs.size + 1) sc.names (cloFrom X.env.cells sc.names [])) s3.heap.objs.size X.env).locals = s3.heap.objs.size := rfl
    obtain ⟨ce, hce⟩ : ∃ ce, ce = compEnvC sc (cellsFrom (s3.heap.objs.size + 1) sc.names (cloFrom X.env.cells sc.names [])) s3.heap.objs.size X.env := ⟨_, rfl⟩
    rw [← hce] at I4 hkx hkf hlo ⊢
    obtain ⟨C, hC⟩ : ∃ C, C = s3.heap.objs.size := ⟨_, rfl⟩
    rw [← hC] at hlo ⊢
    obtain ⟨m4, ns4, _⟩ := I4.loc
    have ns4 : (pushCells (s3.heap.push { cls := .type "dict", data := .dict #[] }) sc.names).Ns ce.locals m4 := ns4
    rw [hlo] at ns4
    have szD : s3.heap.objs.size = D + 1 := by rw [p3, Heap.size_push, hD]
    have nDC : D ≠ C := by
      rw [hC, szD]
      exact Nat.ne_of_lt (Nat.lt_succ_self D)
    have keep4 : ∀ b o, s3.heap.get? b = some o → (pushCells (s3.heap.push { cls := .type "dict", data := .dict #[] }) sc.names).get? b = some o := fun b o e => pushCells_keeps _ _ _ _ (Heap.get?_push_of_some _ e)
    obtain ⟨s4, hs4⟩ : ∃ s4 : Shared, s4 = { s3 with heap := pushCells (s3.heap.push { cls := .type "dict", data := .dict #[] }) sc.names } := ⟨_, rfl⟩
    have h4 : s4.heap = pushCells (s3.heap.push { cls := .type "dict", data := .dict #[] }) sc.names := by rw [hs4]
    have g4 : s4.gens = s1.gens := by rw [hs4, hs3]
    have o4 : s4.os = s1.os := by rw [hs4, hs3]
    rw [← hs4]
    rw [← h4] at ns4 keep4
    have old4 : ∀ b o, s1.heap.get? b = some o → s4.heap.get? b = some o := fun b o e => keep4 b o (keep3 b o e)
    have hg4 : s4.heap.IsGen a g := hg.keeps old4
    have locOf : ∀ {h : Heap} {m : Str → Option Value}, h.Ns C m → ∃ o, LocO C o ∧ h.get? C = some o := fun {h m} ⟨o, es, ep, e, ed, r⟩ => ⟨o, ⟨⟨m, fun h' e' => ⟨o, es, ep, e', ed, r⟩⟩, fun v q => by rw [ed] at q; cases q⟩, e⟩
    have naD : a ≠ D := Nat.ne_of_lt (by rw [hD]; exact ge2)
    have naC : a ≠ C := Nat.ne_of_lt (by rw [hC, szD, hD]; exact Nat.lt_succ_of_lt ge2)
    have lim0 : cStatics < s1.heap.objs.size := let ⟨_, hn, _⟩ := hl; hn.lt
    have nkD : cStatics ≠ D := by
      rw [hD]
      exact Nat.ne_of_lt lim0
    have nkC : cStatics ≠ C := by
      rw [hC, szD, hD]
      exact Nat.ne_of_lt (Nat.lt_succ_of_lt lim0)
    have loop : codeAny (model X.prog X.w) X.A (.compLoop (.ListComp (.Name x p1) [⟨.Name x p2, e, [], 0⟩] sc pos) 0 (.ref a) (.ref D) ce) (compPost (model X.prog X.w) X.A X.xe use Qf (.ref D) C) s4 := by
      refine compLoop_any (fun n z => ∃ gs, z.gens[g]? = some gs ∧ z.heap.IsGen a g ∧ z.heap.NoLimit ∧ gs.Goes (model X.prog X.w) X.A.in1 (EndY X.prog X.w X.stack H1 sc0 D C a g fun out H2 => ∀ p, H2 p = none → Q (.ref p) (upd H2 p (.lst out))) (ItemY sc0 D C a g) n (.send .none) (z.setGen g .running)) ?_ sizeLine
        ⟨.fresh cd, by rw [g4]; exact hgs, hg4, hl.keeps old4, rfl, ?_⟩
      · rintro n s5 ⟨gs, hgs5, hg5, hl5, hgo⟩
        have hgl : g < s5.gens.size := (Array.getElem?_eq_some_iff.mp hgs5).1
        refine wpAny_gsz (n := g + 1) hgl (next_genG (F := fun _ _ s₁ => StopY X.prog X.w X.stack H1 sc0 D C (fun out H2 => ∀ p, H2 p = none → Q (.ref p) (upd H2 p (.lst out))) s₁) (Er := fun _ _ => False) hr.hd hl5 (by have := hr.dp; omega) hg5 hgs5 hgo (fun v s6 gs' hbare hv hsz => ?_) (fun s6 hp h' hk _ => ?_) fun e s6 he => he.elim)
        · obtain ⟨t1, t2, t3, t4, ⟨acc, c, t5, t6⟩, ⟨oC, tC1, tC2⟩, kap⟩ := hv
          obtain ⟨⟨m6, hm6⟩, _⟩ := id tC1
          have ns6 : (s6.setGen g gs').heap.Ns ce.locals m6 := by
            rw [hlo]
            exact hm6 _ tC2
          refine wpAny_pure (wpAny_assign_Name (wpAny_storeName_local hkx ns6 (fun h7 ns7 sb7 => ?_) (by rw [hkf]; rfl)))
          refine wpAny_pure ?_
          refine ite_tt (wpAny_Name (wpAny_loadName_local hkf hkx ns7 (if_pos rfl) ?_) hdb)
          have pl7 : h7.PlainList D acc := ⟨c, (sb7.2 D (by rw [hlo]; exact nDC)).trans t5⟩
          refine wpAny_list_append_plain (s := { s6.setGen g gs' with heap := h7, toks := s6.toks + 1 }) pl7 (fun h8 pl8 sb8 => ?_) (by omega)
          obtain ⟨c8, e8⟩ := pl8
          have ns8 : h8.Ns C (fun y => if y = x then some v else m6 y) := (hlo ▸ ns7).sameBut sb8 nDC.symm
          have old8 : ∀ b o, b ≠ D → b ≠ C → s6.heap.get? b = some o → h8.get? b = some o := fun b o n1 n2 e => (sb8.2 b n1).trans ((sb7.2 b (by rw [hlo]; exact n2)).trans e)
          have hsz6 : g < s6.gens.size := by
            have q : (s6.setGen g gs').gens.size = s6.gens.size := setGen_size _ _ _
            have hsz' : g + 1 ≤ (s6.setGen g gs').gens.size := hsz
            omega
          have nap : Nap D C v s6 (({ s6.setGen g gs' with heap := h8, toks := s6.toks + 1 } : Shared).setGen g .running) :=
            ⟨rfl, allBare_setGen (s := { s6.setGen g gs' with heap := h8, toks := s6.toks + 1 }) (allBare_setGen t2 hbare) rfl, old8, fun acc' c' e' => by
              rw [t5] at e'
              cases e'
              exact ⟨c8, e8⟩, locOf ns8⟩
          have kp := kap _ nap
          match n, kp with
          | 0, kp => exact kp.elim
          | m + 1, kp =>
            refine ⟨m, Nat.lt_succ_self m, gs', setGen_at hsz6, ?_, ?_, kp⟩
            · obtain ⟨o, nm, qn, ho, r⟩ := t4
              exact ⟨o, nm, qn, old8 a o naD naC ho, r⟩
            · obtain ⟨mc, hns, hnn⟩ := t3
              exact ⟨mc, hns.at' fun o e => old8 _ o nkD nkC e, hnn⟩
        · obtain ⟨H', ys, acc, c, oC, t1, t2, t3, t4, ⟨t5, t6⟩, ⟨t7, t8⟩, ⟨t9, t10, t11⟩, t12⟩ := hp
          obtain ⟨⟨mC, hmC⟩, _⟩ := t10
          have le : sc0.heap.objs.size ≤ D := by
            rw [hD]
            exact Nat.le_trans ge1 (Nat.le_of_lt ge2)
          have J : Inv X pins σ (upd H' D (.lst ys)) { s6.setGen g .finished with heap := h' } :=
            I1.drained le t8 (hk _ _ t6) t7 ExOk.nil t1 (allBare_setGen t2 rfl) (t3.trans (Un.kept hk)) (t4.kept hk) t5
          exact hRR D C _ mC _ J (t12 D t5) (hmC _ (hk _ _ t11)) (I3.fpOk (b := C) (Nat.le_of_eq hC.symm) (H' := upd H' D (.lst ys)) (by rw [upd_ne nDC.symm]; exact t9))
      · refine wake X.A.in1 D C (s4.setGen g .running) ⟨hr.hd, ?_, ?_⟩ I1.ok.frames (Nat.le_of_eq hD.symm) (by rw [hC, szD, hD]; exact Nat.le_succ _) nDC old4 ⟨0, keep4 _ _ at3⟩ (locOf ns4) (o4.trans hos) (allBare_setGen (by rw [g4]; exact hb) rfl)
        · have := hr.dp
          show X.A.depth + 3 * k + 5 < _
          omega
        · have := hr.un
          show X.A.units + 1 + 16 * k + 200 < _
          omega
    exact codeAny_compStart_list loop (wpAny_pyIter_gen hg4 loop)
  exact hs3 ▸ goal
theorem pe_lcY {e : Expr} {tg : TGen} {x : Str} {p1 p2 pos : Pos} {sc : Scope} {own : List (Str × Nat)} (hgen : PGenY X k e tg) (hr : Room (k + 1) X.A) (hN : X.N.Nodup) (ok : BlkOk X.N X.env.scope sc own) (hx : sc.names.lookup x = some .local)
    (hdb : (x == ("__debug__" : Str)) = false := by decide) (hs : ∀ y, foldedSetIterable e X.env y = pure y := by intro _; rfl) : PE X (.ListComp (.Name x p1) [⟨.Name x p2, e, [], 0⟩] sc pos) (tListG tg) := by
  refine ⟨fun pins s σ H Q I h => ?_⟩
  rw [eval_ListComp]
  refine lcY_core hgen hr hN ok hx hdb hs I h fun D C s' m H' I' q hn f => ⟨m, hn, fun h'' sb => ?_⟩
  obtain ⟨a0, a1, a2, a3, a4, a5⟩ := f
  exact ⟨.ref D, H', I'.turned (t' := s'.toks) (fun b o hb e => (sb.2 b hb).trans e) a0 a1 a3 a4 a5, rfl, q⟩
/-- name = [x for x in f(..)] on one line, the name a local -/
theorem ps_setLcY {i : Nat} {y : Str} {py : Pos} {e : Expr} {tg : TGen} {x : Str} {p1 p2 pos spos : Pos} {sc : Scope} {own : List (Str × Nat)} (hgen : PGenY X k e tg) (hr : Room (k + 1) X.A) (hN : X.N.Nodup) (hy : X.N[i]? = some y) (hyl : X.env.scope.names.lookup y = some .local)
    (hsw : swapsWith (.ListComp (.Name x p1) [⟨.Name x p2, e, [], 0⟩] sc pos) (some (.Name y py)) spos.line X.env = pure true) (ok : BlkOk X.N X.env.scope sc own) (hx : sc.names.lookup x = some .local)
    (hdb : (x == ("__debug__" : Str)) = false := by decide) (hs : ∀ y, foldedSetIterable e X.env y = pure y := by intro _; rfl) : PS X (.Assign [.Name y py] (.ListComp (.Name x p1) [⟨.Name x p2, e, [], 0⟩] sc pos) spos) (tAsg (tListG tg) (gName i)) := by
  refine ⟨fun pins s σ H D I h => ?_⟩
  rw [exec_Assign_Name_used _ _ _ _ hsw]; refine wpAny_bind (wpAny_standAt (wpAny_bind ?_))
  show wpAny _ X.A (do let _ ← comprehension (.ListComp (.Name x p1) [⟨.Name x p2, e, [], 0⟩] sc pos) sc X.env (firstIterPos [⟨.Name x p2, e, [], 0⟩] pos) (newList []) false (eval e X.env) (some (assign (.Name y py) X.env))) _ _ s
  have h : tListG tg σ H (fun x H1 => gName i x σ H1 D.nx) := h
  refine wpAny_bind (thn (lcY_core (Qf := fun _ s' => SP X pins D .next s') hgen hr hN ok hx hdb hs I h fun D' C s' m H' I' q hn f => ?_) fun _ s' hq => wpAny_pure (wpAny_pure hq))
  show wpAny _ _ (assign (.Name y py) X.env (.ref D')) _ _ _
  refine wpAny_assign_Name (store_ok2 (v := V.ref D') I' hN hy (.inl hyl) rfl (fun s2 I2 ⟨a, sb, ha⟩ => ?_) (.inr hyl))
  obtain ⟨a0, a1, a2, a3, a4, a5⟩ := f
  have haC : C ≠ a := by
    rcases ha with z | z
    · rw [z]; exact a1
    · exact fun e => a4 y a z e.symm
  refine ⟨m, hn.sameBut sb haC, fun h3 sb3 => ⟨_, H', I2.turned (t' := s2.toks) (fun b o hb e => (sb3.2 b hb).trans e) a0 a1 a3 a4 a5, q⟩⟩
end
end Cc

/-! Plans that are refused, plans joined of many, alternating needs. -/
namespace Cc
open PySem PySem.Spec PyProof.Rows L2
/-- two promises of one def -/
theorem fnr_two {P : Program} {w : World} {K : PySem.W.Frag} {mg : Str → Option Value} {base : Heap} {CX : CXT} {k : Nat} {f : Addr} {sp sq : Sp} (F : FnR P w K mg base CX k f sp) (G : FnR P w K mg base CX k f sq) : FnR P w K mg base CX k f (fun vs H Q E => sp vs H Q E ∨ sq vs H Q E) := by
  intro A outer s H us vs Q E hr e0 r h
  rcases h with h | h
  · exact F A outer s H us vs Q E hr e0 r h
  · exact G A outer s H us vs Q E hr e0 r h
/-- .. the first of which never raises -/
theorem fnr_and {P : Program} {w : World} {K : PySem.W.Frag} {mg : Str → Option Value} {base : Heap} {k : Nat} {f : Addr} {sp sq : Sp} (F : FnR P w K mg base CX0 k f sp) (G : FnR P w K mg base (L2.CX P w) k f sq) : FnR P w K mg base (L2.CX P w) k f (fun vs H Q E => sp vs H Q E ∨ sq vs H Q E) := by
  intro A outer s H us vs Q E hr e0 r h
  rcases h with h | h
  · refine codeAny_mono (F A outer s H us vs Q E hr e0 r h) fun z s' hq => ?_
    cases z with
    | error e => exact (False.elim hq)
    | ok fl =>
      cases fl with
      | ret u => exact hq
      | next => exact hq
      | brk => exact hq
      | cont => exact hq
  · exact G A outer s H us vs Q E hr e0 r h
/-- items that are no step -/
inductive BadX : List V → Prop
  | num (b : Bool) (n : Int) (h : ¬ (0 ≤ n ∧ n ≤ 1000000000000000000)) : BadX [.str (roomS b), .int n]
  | green (n : Int) : BadX [.str "green", .int n]
  | turn (n : Int) : BadX [.str "turn", .int n]
  | one : BadX [.str "red"]
  | none : BadX []
  | three (n m : Int) : BadX [.str "red", .int n, .int m]
def BadAt (H : Hp) (v : V) : Prop := ∃ t xs, v = .ref t ∧ H t = some (.tup xs) ∧ BadX xs
theorem BadAt.same {H H' : Hp} {v : V} (h : BadAt H v) (s : Same H H') : BadAt H' v := let ⟨t, xs, e, a, b⟩ := h; ⟨t, xs, e, s _ _ a, b⟩
def spIsStepX : Sp := fun vs H Q _ => ∃ (v : V), vs = [v] ∧ BadAt H v ∧ ∀ H', Same H H' → Q (.bl false) H'
def spIsStepA : Sp := fun vs H Q E => spIsStep vs H Q E ∨ spIsStepX vs H Q E
def spInitSX (C CP : Addr) : Sp := fun vs H _ E => ∃ (x tp dx : Addr) (ws : List V) (i : Nat), vs = [.ref x, .ref tp] ∧ H x = some (.ins C dx []) ∧ TupP H tp ws ∧ i < ws.length ∧ i ≤ 60 ∧ (∀ j, j < i → ∃ v s, ws[j]? = some v ∧ StepAt H v s ∧ s.ok 1000000000000000000) ∧ (i = 60 ∨ ∃ v, ws[i]? = some v ∧ BadAt H v) ∧
  ∀ H' d, Same H H' → H' d = none → E (.ref CP) (some d) (upd H' d (.xd [(("index" : Str), .int (i : Nat))]))
def spInitX (C CP : Addr) : Sp := fun vs H _ E => ∃ (x dx : Addr) (ws : List V) (i : Nat), vs = .ref x :: ws ∧ H x = some (.ins C dx []) ∧ ws.length ≤ 10000 ∧ i < ws.length ∧ i ≤ 60 ∧ (∀ j, j < i → ∃ v s, ws[j]? = some v ∧ StepAt H v s ∧ s.ok 1000000000000000000) ∧ (i = 60 ∨ ∃ v, ws[i]? = some v ∧ BadAt H v) ∧
  ∀ H' d, Same H H' → H' d = none → E (.ref CP) (some d) (upd H' d (.xd [(("index" : Str), .int (i : Nat))]))
def spInitA (C CP : Addr) : Sp := fun vs H Q E => spInit C vs H Q E ∨ spInitX C CP vs H Q E
theorem StepAt.same {H H' : Hp} {v : V} {s : Stp} (h : StepAt H v s) (k : Same H H') : StepAt H' v s := let ⟨t, e, a⟩ := h; ⟨t, e, k _ _ a⟩
/-- a plan at a value -/
def PAt (C : Addr) (H : Hp) (v : V) (ss : List Stp) : Prop := ∃ o, v = .ref o ∧ PlanAt C H o ss
def spJoinA (C CP : Addr) : Sp := fun vs H Q E => ∃ (x : Addr) (ss : List Stp) (os : List V) (uss : List (List Stp)), vs = .ref x :: os ∧ PlanAt C H x ss ∧ Paired (PAt C H) os uss ∧ os.length ≤ 100 ∧ (∀ s ∈ ss ++ uss.flatten, s.ok 1000000000000000000) ∧ (ss ++ uss.flatten).length ≤ 10000 ∧
  ((ss ++ uss.flatten).length ≤ 60 → ∀ p H', Same H H' → PlanAt C H' p (ss ++ uss.flatten) → Q (.ref p) H') ∧ (60 < (ss ++ uss.flatten).length → ∀ H' d, Same H H' → H' d = none → E (.ref CP) (some d) (upd H' d (.xd [(("index" : Str), .int 60)])))
def spJoinSA (C CP : Addr) : Sp := fun vs H Q E => ∃ (x tp : Addr) (ss : List Stp) (os : List V) (uss : List (List Stp)), vs = [.ref x, .ref tp] ∧ H tp = some (.tup os) ∧ PlanAt C H x ss ∧ Paired (PAt C H) os uss ∧ (∀ s ∈ ss ++ uss.flatten, s.ok 1000000000000000000) ∧ (ss ++ uss.flatten).length ≤ 10000 ∧
  ((ss ++ uss.flatten).length ≤ 60 → ∀ p H', Same H H' → PlanAt C H' p (ss ++ uss.flatten) → Q (.ref p) H') ∧ (60 < (ss ++ uss.flatten).length → ∀ H' d, Same H H' → H' d = none → E (.ref CP) (some d) (upd H' d (.xd [(("index" : Str), .int 60)])))
theorem eqv_badx {xs : List V} (h : BadX xs) (n2 : xs.length ≠ 2) : ∃ ds, (∀ (K : PySem.W.Frag) (H : Hp), DpAll K H xs ds) ∧ SeqAt.shaped (.tuple ds) = true ∧ PyData.eqv (.tuple ds) (.tuple [.str "turn"]) = false := by
  cases h with
  | num b n h => exact (n2 rfl).elim
  | green n => exact (n2 rfl).elim
  | turn n => exact (n2 rfl).elim
  | one => exact ⟨[.str "red"], fun K H => .cons (.str _) .nil, by decide +kernel, by decide +kernel⟩
  | none => exact ⟨[], fun K H => .nil, by decide +kernel, by decide +kernel⟩
  | three n m =>
    refine ⟨[.str "red", .int n, .int m], fun K H => .cons (.str _) (.cons (.int _) (.cons (.int _) .nil)), ?_, by simp [PyData.eqv, PyData.eqvAll]⟩
    have h1 : PyData.strOk "red" = true := by decide +kernel
    simp [SeqAt.shaped, PyData.canLay0, PyData.canLayAll0, PyData.depth, PyData.depthAll, h1]
section
variable {P : Program} {w : World} {K : PySem.W.Frag} {mg : Str → Option Value} {base : Heap} {C CP TU pS gS : Addr} {mc : Value}
theorem ok_isstepX {f fN : Addr} {fd : FuncData} (F : Fun K "is_step" "is_step" sIsStep f fd) (T : Txt K mg C TU pS gS mc) (N : Dn P w K mg base 1 "is_number" fN spIsNum) : FnOk P w K mg base CX0 2 f fd ["step"] spIsStepX := by
  refine F.ok scIsStep (fun vs H Q E h => ?_) (fun cdv A outer s H vs Q E hr h => ?_)
  · obtain ⟨v, rfl, _⟩ := h
    rfl
  · obtain ⟨v, rfl, ⟨t, xs, rfl, ht, hb⟩, k⟩ := h
    obtain ⟨u, hu⟩ := T.cc
    refine ⟨_, pss_cons (ps_if (pt_not (pt_val (pe_callB call_isi (by rfl) T.b.isinstance (by decide +kernel) (pa_cons (pv 0) (pa_cons (pe_bltn (v := .ty "tuple") (by rfl) T.b.tuple (by decide +kernel) rfl) pa_nil))))) (pss_one (ps_ret pe_bl)) pss_nil)
      (pss_cons (ps_if (pt_cmpR op_eq (pe_callB call_len (by rfl) T.b.len PySem.boot_len (pa_cons (pv 0) pa_nil)) pe_int (nomark _))
        (pss_one (ps_ret (pe_and (pe_cmpR op_in_seq (pe_ix ix_tup (pv 0) pe_int (fun _ _ => rfl)) (pe_tup (pa_cons pe_str (pa_cons pe_str pa_nil))) (by rfl))
          (pe_one (pe_callR N.ok hr rfl N.at_ N.kp pass0 (pa_cons (pe_ix ix_tup (pv 0) pe_int (fun _ _ => rfl)) (pa_cons pe_int (pa_cons (ClX.pe_cval (pe_glob (v := .ref C) rfl T.gP rfl)) pa_nil)))))))) pss_nil)
      (pss_one (ps_ret (pe_cmpR (op_eqD hr.units) (pv 0) (pe_glob (v := .ref TU) rfl T.gT rfl) (nomark _))))), ?_⟩
    refine ⟨_, rfl, _, _, _, _, true, rfl, .ty "tuple", .base (.tup ht), kit_ty (by decide +kernel), true, rfl, iteF ?_⟩
    refine ⟨_, rfl, _, _, rfl, .inr ⟨_, SqT.of ht, rfl⟩, rfl, _, rfl, ?_⟩
    by_cases n2 : xs.length = 2
    · obtain ⟨r, n, e, hn⟩ : ∃ (r : Str) (n : Int), xs = [.str r, .int n] ∧ (inV (.str r) [.str "red", .str "blue"] = true → ¬ (0 ≤ n ∧ n ≤ 1000000000000000000)) := by
        cases hb with
        | num b n h => exact ⟨_, n, rfl, fun _ => h⟩
        | green n => exact ⟨_, n, rfl, fun z => absurd z (by decide +kernel)⟩
        | turn n => exact ⟨_, n, rfl, fun z => absurd z (by decide +kernel)⟩
        | one => cases n2
        | none => cases n2
        | three n m => cases n2
      subst e
      refine ifT (by rfl) ⟨_, rfl, t, _, _, _, rfl, rfl, SqT.of ht, at_of (j := 0) rfl rfl, by show 2 ≤ sizeLine; decide, fun p hp => ?_⟩
      have s1 := same_upd (o := .tup [.str "red", .str "blue"]) hp
      refine ⟨p, _, rfl, .inr (SqT.of upd_same), rfl, rfl, _, rfl, ?_⟩
      by_cases c : inV (.str r) [.str "red", .str "blue"] = true
      · refine ifT c ⟨_, rfl, t, _, _, _, rfl, rfl, SqT.of (s1 _ _ ht), at_of (j := 1) rfl rfl, C, mc, _, u, rfl, T.rd, hu, n, 0, _, rfl, ?_⟩
        rw [decide_eq_false (hn c)]
        exact k _ s1
      · have c' : inV (.str r) [.str "red", .str "blue"] = false := by simpa using c
        refine ifF c' ?_
        exact k _ s1
    · obtain ⟨ds, hd, h1, h2⟩ := eqv_badx hb n2
      refine ifF (decide_eq_false fun z => n2 (by injection z; omega)) ⟨_, rfl, .tuple ds, .tuple [.str "turn"], .tup (SqT.of ht) (hd _ _), .tup (T.tT _) (.cons (.str _) .nil), h1, by decide +kernel, ?_⟩
      rw [h2]
      exact k H (Same.refl H)
theorem ok_initX {f fS fI2 : Addr} {fd : FuncData} (F : Fun K "__init__" "Plan.__init__" sInit f fd) (T : Txt K mg C TU pS gS mc) (N : Dn P w K mg base 2 "is_step" fS spIsStepA) (X : PySem.EiX.EiTxt P K mg "InvalidPlan" CP fI2) : FnR P w K mg base (L2.CX P w) 3 f (spInitX C CP) := by
  obtain ⟨z1, z2, z3, z4, z5, z6, cdv, z7, z8, rfl, lk, hcd⟩ := F.ex
  refine (fn_starZ (ps := ["self"]) (pv := "steps") (sp := spInitSX C CP) (k := 2) lk hcd scInit StX.cxUp (StX.bind_star1 (B := fun us => bindArgs _ ⟨us, []⟩) (fun _ => rfl) (fun _ _ _ => rfl)) fun A outer s H vs Q E hr h => ?_).imp fun vs H Q E h => ?_
  · obtain ⟨x, tp, dx, ws, i0, rfl, e1, e2, hl, h60, hg, hb, k⟩ := h
    obtain ⟨u, hu⟩ := T.cs
    refine ⟨_, pss_cons (ps_for (passes_of rfl) rfl (pi_enumT (by rfl) T.b.enumerate (pa_cons (pv 1) pa_nil))
        (pg_tup rfl (pgs_cons (pg_name (i := 2) scInit.nd rfl (.inl rfl)) (pgs_cons (pg_name (i := 3) scInit.nd rfl (.inl rfl)) pgs_nil)))
        (pss_one (ps_if (PW.pt (pw_or (pt_cmpR op_eq (pv 2) (ClX.pe_cval (pe_glob (v := .ref C) rfl T.gP rfl)) (nomark _))
          (pw_or1 (pt_not (pt_val (pe_callR N.ok hr rfl N.at_ N.kp pass0 (pa_cons (pv 3) pa_nil)))))))
          (pss_one (ps_raise (W := fun cls d _ H => E cls d H) rfl (takes_of rfl rfl rfl rfl) (pmk_idx (k := 1) X (hr.mono (by decide)) (pv 2) rfl))) pss_nil)))
      pss_never, ?_⟩
    refine ⟨_, rfl, tp, ws, rfl, e2.sq, ?_⟩
    refine for_it (walk_enumT (xs := ws)) (fun i σ H' => i ≤ i0 ∧ ∃ a b, σ = [some (.ref x), some (.ref tp), a, b] ∧ Same H H') ⟨Nat.zero_le _, none, none, rfl, Same.refl H⟩ (fun i σ H' _ ⟨_, _, _, _, s1⟩ => (e2.same s1).sq) ?_ ?_
    · rintro i v σ H1 H2 hi ⟨ile, a, b, rfl, s1⟩ ⟨q, y1, y2, rfl, n1, rfl, z1, z2⟩
      have s2 : Same H (upd H1 q (.tup [y1, y2])) := s1.trans (same_upd n1)
      cases z1
      refine ⟨q, _, rfl, SqT.of upd_same, rfl, _, _, rfl, _, _, rfl, rfl, ?_⟩
      refine ⟨_, rfl, C, mc, _, u, rfl, T.rd, hu, rfl, _, rfl, ?_⟩
      by_cases c60 : i = 60
      · have ei : i = i0 := by omega
        subst ei
        refine ifT (decide_eq_true (by rw [c60]; rfl)) ⟨_, rfl, (i : Int), rfl, ⟨by omega, by omega⟩, fun d hd => ?_⟩
        exact k _ d s2 hd
      · refine ifF (decide_eq_false (fun z => c60 (by injection z with z; omega))) ?_
        by_cases il : i < i0
        · obtain ⟨v', st, hv', hst, okst⟩ := hg i il
          have ev : v' = y2 := Option.some.inj (hv'.symm.trans z2)
          subst ev
          refine ⟨_, rfl, .inl ⟨_, st, rfl, hst.same s2, okst, fun H3 s3 => ⟨_, rfl, ?_⟩⟩⟩
          exact iteF ⟨il, _, _, rfl, s2.trans s3⟩
        · have ei : i = i0 := by omega
          subst ei
          rcases hb with hb | ⟨v', hv', hb⟩
          · exact (c60 hb).elim
          · have ev : v' = y2 := Option.some.inj (hv'.symm.trans z2)
            subst ev
            refine ⟨_, rfl, .inr ⟨_, rfl, hb.same s2, fun H3 s3 => ⟨_, rfl, ?_⟩⟩⟩
            exact iteT ⟨_, rfl, (i : Int), rfl, ⟨by omega, by omega⟩, fun d hd => k _ d (s2.trans s3) hd⟩
    · rintro σ H' ⟨ile, a, b, rfl, s1⟩
      exact absurd hl (by omega)
  · obtain ⟨x, dx, ws, i, rfl, e1, h100, hl, h60, hg, hb, k⟩ := h
    refine ⟨[.ref x], ws, rfl, rfl, ?_, fun p ob hp hd => ?_⟩
    · exact Nat.le_trans h100 (by decide)
    · have s1 : Same H (upd H p (.frz ob (.tup ws))) := same_upd hp
      refine ⟨x, p, dx, ws, i, rfl, s1 _ _ e1, ⟨ob, hd, upd_same⟩, hl, h60, fun j hj => ?_, hb.imp id fun ⟨v, a, b⟩ => ⟨v, a, b.same s1⟩, fun H' d s2 hd2 => k H' d (s1.trans s2) hd2⟩
      obtain ⟨v, s, a, b, c⟩ := hg j hj
      exact ⟨v, s, a, b.same s1, c⟩
theorem PAt.same {H H' : Hp} {v : V} {ss : List Stp} (h : PAt C H v ss) (k : Same H H') : PAt C H' v ss := let ⟨o, e, p⟩ := h; ⟨o, e, p.same k⟩
theorem ok_joinA {f fI CP : Addr} {fd fdS : FuncData} (F : Fun K "joined" "Plan.joined" sJoined f fd) (T : Txt K mg C TU pS gS mc) (G : Gs P w K mg base C gS fdS) (M : Mk K C fI) (GI : FnR P w K mg base (L2.CX P w) 3 fI (spInitA C CP)) : FnR P w K mg base (L2.CX P w) 5 f (spJoinA C CP) := by
  obtain ⟨z1, z2, z3, z4, z5, z6, cdv, z7, z8, rfl, lk, hcd⟩ := F.ex
  refine (StX.fn_star (ps := ["self"]) (pv := "others") (sp := spJoinSA C CP) (k := 4) lk hcd scJoined StX.cxUp (StX.bind_star1 (B := fun us => bindArgs _ ⟨us, []⟩) (fun _ => rfl) (fun _ _ _ => rfl)) fun A outer s H vs Q E hr h => ?_).imp fun vs H Q E h => ?_
  · obtain ⟨x, tp, ss, os, uss, rfl, e2, p1, hP, hs, hl, k1, k2⟩ := h
    obtain ⟨dx, t1, ws, e1, e3, e4⟩ := id p1
    have hr1 : Room 2 _ := hr.mono (by decide)
    refine ⟨_, pss_cons (ps_set (i := 2) scJoined.nd rfl (.inl rfl) (pe_callTy call_list_of (by rfl) T.b.list (by decide +kernel) (pa_cons (pe_prop (pv 0) T.cl T.pr G.ok hr1 G.b .nil pass0 rfl) pa_nil)))
      (pss_cons (ps_for (passes_of rfl) rfl (pi_tup (pv 1)) (pg_name (i := 3) scJoined.nd rfl (.inl rfl))
        (pss_one (ps_expr (pe_bm PySem.F.plainAttrs_list PySem.F.slot_list_extend PySem.F.type_list_extend mt_extendT (pv 2) (pa_cons (pe_prop (pv 3) T.cl T.pr G.ok hr1 G.b .nil pass0 rfl) pa_nil)))))
      (pss_one (ps_ret (pe_makeS (Ez := E) M GI hr rfl T.gP (passes_call (takes_of rfl rfl rfl rfl) fun _ _ _ _ h => h) (pv 2))))), ?_⟩
    refine ⟨_, rfl, x, dx, _, rfl, e1, x, dx, _, _, rfl, e1, lk_self, t1, ws, rfl, .inr e3.sq, fun l hl0 => ?_⟩
    have s1 : Same H (upd H l (.lst ws)) := same_upd hl0
    have lo : os.length = uss.length := Paired.length hP
    refine ⟨_, rfl, tp, rfl, ⟨_, SqT.of (s1 _ _ e2)⟩, for_tup (K := K) (a := tp) (xs := os) (fun i σ H' => ∃ v ys, σ = [some (.ref x), some (.ref tp), some (.ref l), v] ∧ But l H H' ∧ H' l = some (.lst ys) ∧ Steps H ys (ss ++ (uss.take i).flatten))
      ⟨none, ws, rfl, But.of s1, upd_same, by rw [List.take_zero]; show Steps H ws (ss ++ []); rw [List.append_nil]; exact e4⟩ (fun i σ H' _ ⟨_, _, _, b1, _⟩ => SqT.of (b1 _ _ (ne_of_none e2 hl0) e2)) ?_ ?_⟩
    · rintro i y σ H' hi ⟨v, ys, rfl, b1, b2, b3⟩
      obtain ⟨us, hus, o, rfl, po⟩ : ∃ us, uss[i]? = some us ∧ PAt C H y us := by
        have il : i < uss.length := by rw [← lo]; exact (List.getElem?_eq_some_iff.mp hi).1
        refine ⟨uss[i], List.getElem?_eq_getElem il, ?_⟩
        have z : ∀ {os : List V} {uss : List (List Stp)} {i : Nat} {y : V} {us : List Stp}, Paired (PAt C H) os uss → os[i]? = some y → uss[i]? = some us → PAt C H y us := by
          intro os uss
          induction os generalizing uss with
          | nil => intro i y us _ h; cases h
          | cons a os ih =>
            intro i y us hp h1 h2
            cases hp with
            | cons ha hr =>
              cases i with
              | zero =>
                cases h1
                cases h2
                exact ha
              | succ i => exact ih hr h1 h2
        exact z hP hi (List.getElem?_eq_getElem il)
      obtain ⟨dy, t2, zs, f1, f3, f4⟩ := id po
      have g1 := b1 _ _ (ne_of_none f1 hl0) f1
      have g3 := f3.but b1 (f3.ne hl0)
      have et : uss.take (i + 1) = uss.take i ++ [us] := by
        have il : i < uss.length := (List.getElem?_eq_some_iff.mp hus).1
        rw [List.take_add_one, hus]
        rfl
      have hlen : ys.length + zs.length ≤ 10000 := by
        have z1 : (ss ++ (uss.take (i + 1)).flatten).length ≤ (ss ++ uss.flatten).length := by
          have : uss.flatten = (uss.take (i + 1)).flatten ++ (uss.drop (i + 1)).flatten := by rw [← List.flatten_append, List.take_append_drop]
          rw [this, ← List.append_assoc, List.length_append (bs := (uss.drop (i + 1)).flatten)]
          omega
        rw [et, List.flatten_append, ← List.append_assoc, List.length_append (bs := [us].flatten), ← b3.length] at z1
        have z2 : [us].flatten = us := by simp
        rw [z2, ← f4.length] at z1
        omega
      refine ⟨_, rfl, .inl ⟨rfl, _, SqL.of b2⟩, _, rfl, o, dy, _, rfl, g1, o, dy, _, _, rfl, g1, lk_self, l, t2, ys, zs, rfl, rfl, b2, g3.sq, Nat.le_trans hlen (by decide), ?_⟩
      refine ⟨_, ys ++ zs, rfl, fun b o n e => ?_, upd_same, ?_⟩
      · rw [upd_ne n]
        exact b1 b o n e
      · rw [et, List.flatten_append, ← List.append_assoc]
        have z2 : [us].flatten = us := by simp
        rw [z2]
        exact b3.append f4
    · rintro σ H' ⟨v, ys, rfl, b1, b2, b3⟩
      rw [lo, List.take_length] at b3
      have stp : Steps H' ys (ss ++ uss.flatten) := b3.mono fun t xs e => b1 _ _ (ne_of_none e hl0) e
      have sH : Same H H' := fun b o e => b1 _ _ (ne_of_none e hl0) e
      refine ⟨_, rfl, l, _, rfl, .inr (SqL.of b2), fun q dq hq hdq hne => ?_⟩
      have s2 : Same H' (upd (upd H' dq (.own q)) q (.ins C dq [])) := fun b o e => by
        rw [upd_ne (ne_of_none e hq), upd_ne (ne_of_none e hdq)]
        exact e
      by_cases c60 : (ss ++ uss.flatten).length ≤ 60
      · refine .inl ⟨q, dq, _, ss ++ uss.flatten, rfl, upd_same, stp.same s2, c60, hs, fun H2 tq b3 b4 b5 => ⟨rfl, ?_⟩⟩
        have s3 : Same H' H2 := fun b o e => b3 _ _ (ne_of_none e hq) (s2 _ _ e)
        exact k1 c60 q H2 (sH.trans s3) ⟨dq, tq, _, b4, b5, stp.same s3⟩
      · have c60' : 60 < (ss ++ uss.flatten).length := by omega
        have ly : ys.length = (ss ++ uss.flatten).length := stp.length
        refine .inr ⟨q, dq, _, 60, rfl, upd_same, by omega, by omega, Nat.le_refl _, fun j hj => ?_, .inl rfl, fun H2 d s3 hd => k2 c60' H2 d (sH.trans (s2.trans s3)) hd⟩
        have jl : j < ys.length := by omega
        obtain ⟨st, hst, sa⟩ := (stp.same s2).get (List.getElem?_eq_getElem jl)
        exact ⟨_, st, List.getElem?_eq_getElem jl, sa, hs st (List.mem_of_getElem? hst)⟩
  · obtain ⟨x, ss, os, uss, rfl, p1, hP, h100, hs, hl, k1, k2⟩ := h
    refine ⟨[.ref x], os, rfl, rfl, Nat.le_trans h100 (by decide), fun p hp => ?_⟩
    have s1 : Same H (upd H p (.tup os)) := same_upd hp
    exact ⟨x, p, ss, os, uss, rfl, upd_same, p1.same s1, Paired.mapP hP fun _ _ z => z.same s1, hs, hl, fun c p' H' s2 => k1 c p' H' (s1.trans s2), fun c H' d s2 hd => k2 c H' d (s1.trans s2) hd⟩
end
end Cc

/-! Own rule: a list from its end to its beginning, xs[::-1]. -/
namespace Cc
open PySem PySem.Spec PyProof.Rows L2
def tRev (K : PySem.W.Frag) (te : TE) : TE := fun σ H Q => te σ H fun x H1 => ∃ (a : Addr) (xs : List V), x = .ref a ∧ SqL K H1 a xs ∧ ∀ p, H1 p = none → Q (.ref p) (upd H1 p (.lst xs.reverse))
theorem pe_rev {X : Cx} {e : Expr} {te : TE} {pos p2 pc pu : Pos} (he : PE X e te) : PE X (.Subscript e (.Slice none none (some (.UnaryOp .USub (.Constant (.int 1) 0 pc) pu)) p2) pos) (tRev X.K te) := by
  refine ⟨fun pins s σ H Q I h => ?_⟩
  refine Subscript_ (thn (he.run pins s σ H _ I h) fun v s1 ⟨x, H1, I1, r1, a, xs, ex, hx, q1⟩ => ?_)
  subst ex
  have st : PO X (some (Expr.UnaryOp .USub (.Constant (.int 1) 0 pc) pu)) (tPart (tUn (rU fun i => .int (-i)) (tC (.int 1)))) := po_some (pe_un un_neg pe_int)
  refine wpAny_Slice (thn (po_none.run pins s1 σ H1 (fun l H2 => l = none ∧ H2 = H1) I1 ⟨rfl, rfl⟩) fun vl s2 ⟨l, H2, I2, pl, el, eH⟩ => ?_)
  subst el
  subst eH
  refine thn (po_none.run pins s2 σ H2 (fun l H3 => l = none ∧ H3 = H2) I2 ⟨rfl, rfl⟩) fun vu s3 ⟨u, H3, I3, pu', eu, eH⟩ => ?_
  subst eu
  subst eH
  refine thn (st.run pins s3 σ H3 (fun l H4 => l = some (-1) ∧ H4 = H3) I3 ⟨1, rfl, -1, rfl, rfl, rfl⟩) fun vk s4 ⟨k, H4, I4, pk, ek, eH⟩ => ?_
  subst ek
  subst eH
  have I5 : Inv X pins σ H4 { s4 with heap := s4.heap.push { cls := .type "slice", data := .fields #[vl, vu, vk] } } := I4.kept (t' := s4.toks) fun b ob q => Heap.get?_push_of_some _ q
  cases r1
  obtain ⟨its, r, ht, hz⟩ := I5.list hx; have hlen := r.length
  show wpAny (model X.prog X.w) X.A (subscriptTail e (.Slice none none (some (.UnaryOp .USub (.Constant (.int 1) 0 pc) pu)) p2) (.ref a) (.ref s4.heap.objs.size)) (EP X pins σ Q) X.xe { s4 with heap := s4.heap.push { cls := .type "slice", data := .fields #[vl, vu, vk] } }
  refine tail_any (ops := [.ref a, .ref s4.heap.objs.size]) ht.isList.typeIs slot_list_getitem.lookup ?_ (by with_unfolding_all rfl)
  refine wpAny_getItem_list_slice ht.isList (Heap.IsSliceOf.new ..) pl pu' pk (by simp) ?_ (by rw [List.size_toArray] <;> omega)
  rw [PySem.W.krv_pick]
  refine ⟨.ref _, _, I5.laid (t' := s4.toks) (o := .lst xs.reverse) (fun b ob q => Heap.get?_push_of_some _ q) (Nat.le_refl _) ?_, rfl, q1 _ (I5.hok.fresh (Nat.le_refl _))⟩
  refine ⟨by rw [List.length_reverse]; omega, its.toArray.toList.reverse, 0, by simpa using r.reverse, Heap.get?_push_size _ rfl⟩
/-- o.m() by a positional promise -/
theorem pe_methR0 {X : Cx} {CX : CXT} {k : Nat} {C f : Addr} {m : Str} {sp : Sp} {E : XK} {o : Expr} {ta : TE} {apos pos : Pos} {pl : Sem Bool} (he : PE X o ta) (c : Cls X.K C) (hm : Meth X.K C m f)
    (F : FnR X.prog X.w X.K X.mg X.base CX k f sp) (hr : Room k X.A) (hx : Passes CX X E) (ht : eval (.Call (.Attribute o m apos) [] [] pos) X.env = (do
      let ov ← eval o X.env
      standAt apos.atName
      let (f, first) ← holding [ov] (getMethod ov m pl); callWith pos f first (backTo pos (starEach [] X.env)) (backToKw pos (keywordEach [] X.env))) := by rfl) :
    PE X (.Call (.Attribute o m apos) [] [] pos) (tMethR C m sp E ta tNil) := by
  refine ⟨fun pins s σ H Q I h => PySem.W.methodCall_KW (pl := pl) (thn (he.run pins s σ H _ I h) fun u s1 ⟨x, H1, I1, rx, a, dx, fs, ex, ea, l, q⟩ => ?_) ht⟩
  subst ex
  obtain rfl : u = Value.ref a := rx
  exact getmeth_ok I1 ea c hm l (PySem.W.callWith_K0 (first := [.ref a]) I1.kIn hm.kp (wpAny_call (run_fnR (us := [.ref a]) (vs := [.ref a]) F hr hx I1 (.cons rfl .nil) q)))
end Cc

/-! Alternating needs; whether a plan turns. -/
namespace Cc
open PySem PySem.Spec PyProof.Rows L2
abbrev sAlt : Stmt := inClass (top 14) 3
def altL (ns : List Int) : List Stp := ns.mapIdx fun i n => .meet (decide (i % 2 = 0)) n
theorem altL_get {ns : List Int} {i : Nat} {n : Int} (h : ns[i]? = some n) : (altL ns)[i]? = some (.meet (decide (i % 2 = 0)) n) := by
  unfold altL
  rw [List.getElem?_mapIdx, h]
  rfl
theorem altL_len (ns : List Int) : (altL ns).length = ns.length := List.length_mapIdx
theorem altL_ok {ns : List Int} (h : ∀ n ∈ ns, 0 ≤ n ∧ n ≤ 1000000000000000000) : ∀ s ∈ altL ns, s.ok 1000000000000000000 := fun s hs => by
  obtain ⟨i, hi⟩ := List.getElem?_of_mem hs
  have il : i < ns.length := by
    rw [← altL_len]
    exact (List.getElem?_eq_some_iff.mp hi).1
  rw [altL_get (List.getElem?_eq_getElem il)] at hi
  rw [← Option.some.inj hi]
  exact h _ (List.getElem_mem il)
def spAltNS (C : Addr) : Sp := fun vs H Q _ => ∃ (tp : Addr) (ns : List Int), vs = [.ref C, .ref tp] ∧ H tp = some (.tup (ns.map V.int)) ∧ (∀ n ∈ ns, 0 ≤ n ∧ n ≤ 1000000000000000000) ∧ ns.length ≤ 60 ∧ ∀ p H', Same H H' → PlanAt C H' p (altL ns) → Q (.ref p) H'
def spAltN (C : Addr) : Sp := fun vs H Q _ => ∃ (ns : List Int), vs = .ref C :: ns.map V.int ∧ (∀ n ∈ ns, 0 ≤ n ∧ n ≤ 1000000000000000000) ∧ ns.length ≤ 60 ∧ ∀ p H', Same H H' → PlanAt C H' p (altL ns) → Q (.ref p) H'
def spTurning (C : Addr) : Sp := fun vs H Q _ => ∃ (p : Addr) (ss : List Stp), vs = [.ref p] ∧ PlanAt C H p ss ∧ ss.length ≤ 1000 ∧ Q (.bl (decide (turnsF ss % 2 = 1))) H
/-- c( *xs), c a name bound to the class -/
theorem pe_makeSw {X : Cx} {CX : CXT} {k i : Nat} {f C : Addr} {sp : Sp} {Ez : XK} {x : Str} {e : Expr} {te : TE} {p q pos : Pos} (M : Mk X.K C f) (F : FnR X.prog X.w X.K X.mg X.base CX k f sp) (hr : Room (k + 1) X.A) (hi : X.N[i]? = some x) (hv : Vis X.env.scope x) (hx : Passes CX X Ez) (ke : PE X e te)
    (hd : (x == ("__debug__" : Str)) = false := by decide) (hcd : (x == ("__classdict__" : Str)) = false := by decide) (hst : starEach [.Starred e q] X.env = [(true, eval e X.env)] := by rfl) :
    PE X (.Call (.Name x p) [.Starred e q] [] pos) (fun sg H Q => sg[i]? = some (some (.ref C)) ∧ tMakeS X.K C sp Ez te sg H Q) := by
  refine ⟨fun pz s sg Hh Qz J ⟨hc, h⟩ => ?_⟩
  refine wpAny_Call_Name_kw (thn ((pe_var (pos := p) (i := i) hi hv hd hcd).run pz s sg Hh (fun v H1 => v = .ref C ∧ H1 = Hh) J ⟨.ref C, hc, rfl, rfl⟩) fun u z1 ⟨v, H1, J1, r1, ev, eH⟩ => ?_)
  subst ev
  subst eH
  cases (show u = Value.ref C from r1)
  refine PySem.W.callWith_S (h₀ := X.base) J1.ok.mod.kin M.kp (thn (ke.run pz z1 sg H1 _ J1 h) fun v z2 ⟨y, H2, J2, ry, a, xs, ey, kxs, qz⟩ => ?_) hst
  subst ey
  cases (show v = Value.ref a from ry)
  exact StX.star_any J2 kxs fun us z3 J3 rw1 => ⟨J3.kIn, StX.run_makeR M F hr hx J3 rw1 qz⟩
section
variable {P : Program} {w : World} {K : PySem.W.Frag} {mg : Str → Option Value} {base : Heap} {C TU pS gS : Addr} {mc : Value}
theorem scAlt : FnScope ["cls", "needs", "steps", "at", "need"] ["cls", "needs"] (defScope sAlt) := ⟨rfl, rfl, rfl, by decide +kernel, rfl, by decide +kernel, by decide +kernel⟩
theorem ok_altN {f fI : Addr} {fd : FuncData} (F : Fun K "alternating" "Plan.alternating" sAlt f fd) (T : Txt K mg C TU pS gS mc) (M : Mk K C fI) (GI : FnR P w K mg base CX0 3 fI (spInit C)) : FnR P w K mg base CX0 5 f (spAltN C) := by
  obtain ⟨z1, z2, z3, z4, z5, z6, cdv, z7, z8, rfl, lk, hcd⟩ := F.ex
  refine (StX.fn_star (ps := ["cls"]) (pv := "needs") (sp := spAltNS C) (k := 4) lk hcd scAlt StX.cxUp_none (StX.bind_star1 (B := fun us => bindArgs _ ⟨us, []⟩) (fun _ => rfl) (fun _ _ _ => rfl)) fun A outer s H vs Q E hr h => ?_).imp fun vs H Q E h => ?_
  · obtain ⟨tp, ns, rfl, e1, ha, hl, k⟩ := h
    suffices h : ∃ t, PSs (cxOf CX0 P w K mg base ["cls", "needs", "steps", "at", "need"] "Plan.alternating" (defScope sAlt) f cdv A outer s H E).nox (defBody sAlt) t ∧ t { nx := fun _ H' => Q .non H', rt := Q } (start ["cls", "needs", "steps", "at", "need"] [.ref C, .ref tp]) H by
      obtain ⟨t, h1, h2⟩ := h
      exact ⟨t, h1.nox, h2⟩
    refine ⟨_, pss_cons (ps_set (i := 2) scAlt.nd rfl (.inl rfl) (pe_lst pa_nil))
      (pss_cons (ps_for PassesOwn.never rfl (pi_enumT (by rfl) T.b.enumerate (pa_cons (pv 1) pa_nil)) (pg_tup rfl (pgs_cons (pg_name (i := 3) scAlt.nd rfl (.inl rfl)) (pgs_cons (pg_name (i := 4) scAlt.nd rfl (.inl rfl)) pgs_nil)))
        (pss_one (ps_expr (pe_bm PySem.F.plainAttrs_list PySem.F.slot_list_append PySem.F.type_list_append mt_append (pv 2) (pa_cons (pe_tup (pa_cons (pe_ifExp (pt_cmpR op_eq (pe_op op_mod (pv 3) pe_int) pe_int (nomark _)) pe_str pe_str) (pa_cons (pv 4) pa_nil))) pa_nil)))))
      (pss_one (ps_ret (pe_makeSw (i := 0) M GI hr rfl (.inl rfl) pass0 (pv 2))))), ?_⟩
    refine ⟨by show 0 ≤ sizeLine; decide, fun l hl => ?_⟩
    have e1' := (same_upd (o := .lst []) hl) _ _ e1
    refine ⟨_, rfl, tp, ns.map V.int, rfl, SqT.of e1', ?_⟩
    refine for_it (walk_enumT (xs := ns.map V.int)) (fun i σ H' => ∃ x y ws, σ = [some (.ref C), some (.ref tp), some (.ref l), x, y] ∧ Same H H' ∧ H' l = some (.lst ws) ∧ Steps H' ws ((altL ns).take i)) ⟨none, none, [], rfl, same_upd hl, upd_same, .nil⟩ (fun i σ H' _ ⟨_, _, _, _, s1, _⟩ => SqT.of (s1 _ _ e1)) ?_ ?_
    · rintro i v σ H1 H2 hi ⟨x, y, ws, rfl, s1, el, gs⟩ ⟨q, y1, y2, rfl, n1, rfl, z1, z2⟩
      cases z1
      replace z2 : (ns.map V.int)[i]? = some y2 := z2
      rw [List.getElem?_map] at z2
      obtain ⟨n, hn, rfl⟩ : ∃ n, ns[i]? = some n ∧ y2 = V.int n := by
        cases ez : ns[i]? with
        | none =>
          rw [ez] at z2
          cases z2
        | some a =>
          rw [ez] at z2
          exact ⟨a, rfl, (Option.some.inj z2).symm⟩
      have s2 : Same H1 (upd H1 q (.tup [.int (i : Nat), .int n])) := same_upd n1
      refine ⟨q, _, rfl, SqT.of upd_same, rfl, _, _, rfl, _, _, rfl, rfl, ?_⟩
      have hlen : ws.length < sizeLine := by
        rw [gs.length, List.length_take, altL_len, sizeLine_eq]
        omega
      have et : (altL ns).take (i + 1) = (altL ns).take i ++ [.meet (decide (i % 2 = 0)) n] := take_more (altL_get hn)
      have step : ∀ (r : Bool) (t : Addr) (H3 : Hp), r = decide (i % 2 = 0) → H3 t = none → Same H1 H3 → ∃ x y ws', [some (V.ref C), some (.ref tp), some (.ref l), some (.int (i : Nat)), some (.int n)] = [some (V.ref C), some (.ref tp), some (.ref l), x, y] ∧
          Same H (upd (upd H3 t (.tup [.str (roomS r), .int n])) l (.lst (ws ++ [.ref t]))) ∧ upd (upd H3 t (.tup [.str (roomS r), .int n])) l (.lst (ws ++ [.ref t])) l = some (.lst ws') ∧ Steps (upd (upd H3 t (.tup [.str (roomS r), .int n])) l (.lst (ws ++ [.ref t]))) ws' ((altL ns).take (i + 1)) := by
        intro r t H3 er ht s3
        subst er
        have s4 := s3.trans (same_upd (o := .tup [.str (roomS (decide (i % 2 = 0))), .int n]) ht)
        have el4 := s4 _ _ el
        have keep : ∀ u xs, upd H3 t (.tup [.str (roomS (decide (i % 2 = 0))), .int n]) u = some (.tup xs) → upd (upd H3 t (.tup [.str (roomS (decide (i % 2 = 0))), .int n])) l (.lst (ws ++ [.ref t])) u = some (.tup xs) := fun u xs e => by
          rw [upd_ne (ne_of e el4 (fun q => nomatch q))]
          exact e
        refine ⟨_, _, _, rfl, same_new hl (s1.trans s4), upd_same, ?_⟩
        rw [et]
        exact ((gs.same s4).mono keep).append (.cons ⟨t, rfl, keep _ _ upd_same⟩ .nil)
      refine ⟨_, rfl, .inl ⟨rfl, _, SqL.of (s2 _ _ el)⟩, _, rfl, _, _, rfl, rfl, (by show (0 : Int) < 2; decide), rfl, _, rfl, ?_⟩
      by_cases c : i % 2 = 0
      · refine ifT (decide_eq_true (show V.int (((i : Nat) : Int) % 2) = V.int 0 by rw [show ((i : Nat) : Int) % 2 = 0 by omega])) ⟨_, rfl, by show 2 ≤ sizeLine; decide, fun t ht => ⟨l, ws, _, rfl, rfl, (s2.trans (same_upd ht)) _ _ el, hlen, ?_⟩⟩
        exact step true t _ (by rw [decide_eq_true c]) ht s2
      · refine ifF (decide_eq_false fun z : V.int (((i : Nat) : Int) % 2) = V.int 0 => c (by injection z; omega)) ⟨_, rfl, by show 2 ≤ sizeLine; decide, fun t ht => ⟨l, ws, _, rfl, rfl, (s2.trans (same_upd ht)) _ _ el, hlen, ?_⟩⟩
        exact step false t _ (by rw [decide_eq_false c]) ht s2
    · rintro σ H' ⟨x, y, ws, rfl, s1, el, gs⟩
      rw [List.length_map, ← altL_len, List.take_length] at gs
      refine ⟨rfl, _, rfl, l, _, rfl, .inr (SqL.of el), fun q dq hq hdq hne => ?_⟩
      have s2 : Same H' (upd (upd H' dq (.own q)) q (.ins C dq [])) := fun b o e => by
        rw [upd_ne (ne_of_none e hq), upd_ne (ne_of_none e hdq)]
        exact e
      refine ⟨q, dq, _, altL ns, rfl, upd_same, gs.same s2, by rw [altL_len]; omega, altL_ok ha, fun H2 tq b3 b4 b5 => ⟨rfl, ?_⟩⟩
      have s3 : Same H' H2 := fun b o e => b3 _ _ (ne_of_none e hq) (s2 _ _ e)
      exact k q H2 (s1.trans s3) ⟨dq, tq, _, b4, b5, gs.same s3⟩
  · obtain ⟨ns, rfl, ha, hl, k⟩ := h
    refine ⟨[.ref C], ns.map V.int, rfl, rfl, by rw [List.length_map]; exact Nat.le_trans hl (by decide), fun p hp => ?_⟩
    have s1 : Same H (upd H p (.tup (ns.map V.int))) := same_upd hp
    exact ⟨p, ns, rfl, upd_same, ha, hl, fun p' H' s2 => k p' H' (s1.trans s2)⟩
abbrev s_Plan_is_turning : Stmt := inClass (top 14) 5
abbrev n_Plan_is_turning : List Str := ["self"]
theorem sc_Plan_is_turning : FnScope n_Plan_is_turning ["self"] (defScope s_Plan_is_turning) := ⟨rfl, rfl, rfl, by decide +kernel, rfl, by decide +kernel, by decide +kernel⟩
theorem ok_Plan_is_turning {f : Addr} {fd : FuncData} (F : Fun K "is_turning" "Plan.is_turning" s_Plan_is_turning f fd) (T : Txt K mg C TU pS gS mc) : FnOk P w K mg base CX0 1 f fd ["self"] (spTurning C) := by
  refine F.ok sc_Plan_is_turning (fun vs H Q E h => ?_) (fun cdv A outer s H vs Q E hr h => ?_)
  · obtain ⟨p, ss, rfl, _⟩ := h
    rfl
  · obtain ⟨p, ss, rfl, ⟨dx, tp, ws, e1, e2, e3⟩, hl, k⟩ := h
    refine ⟨_, pss_one (ps_ret (pe_cmpR op_eq (pe_op op_mod (pe_bmZ PySem.F.slot_tuple_count PySem.F.type_tuple_count (mt_countT (room65 hr)) (pe_fld (pv 0) rfl) (pa_cons (pe_glob (v := .ref TU) rfl T.gT rfl) pa_nil)) pe_int) pe_int (nomark _))), ?_⟩
    refine ⟨_, rfl, p, C, dx, _, _, rfl, e1, T.cl, T.nS, lk_self, ⟨tp, ws, rfl, e2⟩, tp, ws, .ref TU, .tuple [.str "turn"], ss.map stpD, rfl, rfl, e2.sq, stpD_dp e3, .tup (T.tT _) (.cons (.str _) .nil), stpD_shaped ss, by decide +kernel, (stpD_lay ss).2.2, by decide +kernel, ?_⟩
    rw [count_turns]
    refine ⟨_, _, rfl, rfl, by show (0 : Int) < 2; decide, rfl, ?_⟩
    have e : decide (V.int (((turnsF ss : Nat) : Int) % 2) = V.int 1) = decide (turnsF ss % 2 = 1) := by
      by_cases h : turnsF ss % 2 = 1
      · rw [decide_eq_true h, decide_eq_true (by rw [show ((turnsF ss : Nat) : Int) % 2 = 1 by omega])]
      · rw [decide_eq_false h, decide_eq_false (fun z => h (by injection z; omega))]
    dsimp only at e ⊢
    rw [e]
    exact k
end
end Cc

/-! Several except clauses, some of them with a name. -/
namespace Cc
open PySem PySem.Spec PyProof.Rows L2
/-- the ends behind a clause whose name stands in slot i -/
def gone (i : Nat) (D : Ends) : Ends := { nx := fun z => D.nx (z.set i none), rt := D.rt, bk := fun z => D.bk (z.set i none), ct := fun z => D.ct (z.set i none) }
/-- what a clause asks where an exception at a is caught -/
def clRun (D : Ends) (oi : Option Nat) (ts : Addr → Value → Option Addr → TS) (a : Addr) (cls : Value) (d : Option Addr) (z : L2.St) (G : Hp) : Prop := match oi with
  | none => ts a cls d D z G
  | some i => ts a cls d (gone i D) (z.set i (some (.ref a))) G
def wCls (K : PySem.W.Frag) (Wo : WX) (D : Ends) : List (Value × Option Nat × (Addr → Value → Option Addr → TS)) → WX
  | [] => Wo
  | (c, oi, ts) :: r => fun cls d z G => ∃ b, PySem.W.exmOne K cls c = some b ∧ (b = true → ∀ a, G a = none → clRun D oi ts a cls d z G) ∧ (b = false → wCls K Wo D r cls d z G)
inductive ClsOk (X : Cx) : List ExceptHandler → List (Value × Option Nat × (Addr → Value → Option Addr → TS)) → Prop
  | nil : ClsOk X [] []
  | plain {x : Str} {c : Value} {ts : Addr → Value → Option Addr → TS} {b0 : Stmt} {su : List Stmt} {p1 p2 : Pos} {hs : List ExceptHandler} {l : List (Value × Option Nat × (Addr → Value → Option Addr → TS))} (hc : Names X x c)
      (go : ∀ (a : Addr) (oe : Obj) (cls : Value) (d : Option Addr) (pn : List (Addr × Obj)), Zc cls d oe → (∃ vs, oe.data = .fields vs) → PSs (X.suite a ((a, oe) :: pn)) (b0 :: su) (ts a cls d)) (r : ClsOk X hs l) : ClsOk X (.ExceptHandler (some (.Name x p1)) none (b0 :: su) p2 :: hs) ((c, none, ts) :: l)
  | named {x n : Str} {i : Nat} {c : Value} {ts : Addr → Value → Option Addr → TS} {b0 : Stmt} {su : List Stmt} {p1 p2 : Pos} {hs : List ExceptHandler} {l : List (Value × Option Nat × (Addr → Value → Option Addr → TS))} (hc : Names X x c) (hN : X.N.Nodup) (hi : X.N[i]? = some n) (hl : X.env.kindOf n = some .local)
      (go : ∀ (a : Addr) (oe : Obj) (cls : Value) (d : Option Addr) (pn : List (Addr × Obj)), Zc cls d oe → (∃ vs, oe.data = .fields vs) → PSs (X.suite a ((a, oe) :: pn)) (b0 :: su) (ts a cls d)) (r : ClsOk X hs l) : ClsOk X (.ExceptHandler (some (.Name x p1)) (some n) (b0 :: su) p2 :: hs) ((c, some i, ts) :: l)
section
variable {X : Cx} {body : List Stmt} {k0 : ExceptHandler} {ks : List ExceptHandler} {l : List (Value × Option Nat × (Addr → Value → Option Addr → TS))} {pos : Pos} {tb : WX → TS} {Wo : WX}
theorem ps_try_cls (hs : X.stack = X.env :: X.outer) (hf : X.env.frame = some X.env.locals) (tk : Takes X Wo)
    (hb : ∀ (W : WX) (pn : List (Addr × Obj)) (xe : Value → Shared → Prop), Takes (X.tr pn xe) W → PassesOwn (model X.prog X.w) X.A X.env xe → PSs (X.tr pn xe) body (tb W)) (hh : ClsOk X (k0 :: ks) l) : PS X (.Try body (k0 :: ks) [] [] pos) (fun D z G => tb (wCls X.K Wo D l) D z G) := by
  refine ⟨fun pins s z G D I h => ?_⟩
  have ok := I.ok
  have frames : X.A.frames = some (X.env :: X.outer) := ok.frames.trans (congrArg some hs)
  refine wpAny_Try_except ?_
  have look := hb (wCls X.K Wo D l) (X.pn ++ pins) (fun e q1 => wpAny (model X.prog X.w) X.A (noteFrame e X.env) (fun _ q2 => wpAny (model X.prog X.w) X.A (setFlight e none) (fun _ q3 => wpAny (model X.prog X.w) X.A (handleBy e X.env (k0 :: ks)) (SP X pins D) X.xe q3) X.xe q2) X.xe q1)
  refine wpAny_mono ((look (fun u s' xx => ?_) PassesOwn.looking).run [] s z G D (I.toTry _) h) (fun f s1 end1 => ?_) fun e s1 q => q
  · obtain ⟨a, B, sI, pins', z', G', cls, d, rfl, J', nb, up, sky, na, os, ag, w⟩ := xx
    have J : Inv X pins z' G' sI := J'.ofTry ok
    have sky2 : Sky B (X.env :: X.outer) a (Zc cls d) X.env.locals s'.heap := hs ▸ sky
    (show wpAny (model X.prog X.w) X.A (noteFrame (.ref a) X.env) _ _ _)
    refine Sky.land Zc.steady frames hf sky2 fun h3 fl3 up3 => ?_
    have J3 : Inv X pins z' G' { s' with heap := h3 } := J.landed nb fl3.1 (up.trans up3) os ag
    obtain ⟨o3, w3, at3, cl3, fd3⟩ := fl3.there
    have nfr : a ∉ frs (X.env :: X.outer) := fun m => by
      obtain ⟨_, o', e', nf⟩ := fl3.2.2.1.mem m
      rw [at3] at e'
      cases e'
      exact nf _ fd3
    have nL : a ≠ X.env.locals := fun q => nfr (List.mem_filterMap.mpr ⟨X.env, List.mem_cons_self, by rw [hf, q]⟩)
    have nF : a ∉ X.fs := fun m => let ⟨e, he, q⟩ := List.mem_filterMap.mp m; nfr (List.mem_filterMap.mpr ⟨e, List.mem_cons_of_mem _ he, q⟩)
    have Z3 := J3.suite at3 fd3 na nL nF
    -- the class of a clause is looked at
    have test : ∀ {x : Str} {c : Value} {p : Pos} {Q : Value → Shared → Prop} {E : Value → Shared → Prop}, Names X x c → Q c { s' with heap := h3 } → wpAny (model X.prog X.w) (X.A.mark (some (.ref a))) (eval (.Name x p) X.env) Q E { s' with heap := h3 } := fun {x c p Q E} hc q => by
      obtain ⟨g, db, m | ⟨m, v, n⟩⟩ := hc
      · exact ld_glob (X := X.suite a ((a, o3) :: (X.pn ++ pins))) Z3 g m q db
      · exact ld_blt (X := X.suite a ((a, o3) :: (X.pn ++ pins))) Z3 g m v q n db
    have looks : PySem.W.Looks (model X.prog X.w) h3 (typeOf (.ref a)) cls := fun A Q E s k q => wpAny_typeOf_ref (k _ _ at3) (by rw [cl3.1]; exact q)
    have run : ∀ {hs' : List ExceptHandler} {l' : List (Value × Option Nat × (Addr → Value → Option Addr → TS))}, ClsOk X hs' l' → wCls X.K Wo D l' cls d z' G' → wpAny (model X.prog X.w) X.A (handleBy (.ref a) X.env hs') (SP X pins D) X.xe { s' with heap := h3 } := by
      intro hs' l' hk
      induction hk with
      | nil =>
        intro w
        refine wpAny_handleBy_nil ?_
        obtain ⟨_, _, _, _, _, T, _, _, at0, _, fd0, f0, _⟩ := id fl3
        unfold PySem.passOn
        refine wpAny_bind (wpAny_field at0 fd0 f0 ?_)
        rw [if_neg (show ¬ ((Value.ref T == Value.none) = true) by simp)]
        have away : wpAny (model X.prog X.w) X.A (setFlight (.ref a) X.env.frame) (fun _ q4 => wpAny (model X.prog X.w) X.A (throw (.ref a) : Sem Flow) (SP X pins D) X.xe q4) X.xe { s' with heap := h3 } := by
          rw [hf]
          refine HandSPX.setFlight_upZ fl3 fun h4 sk4 up4 => wpAny_throw (tk _ _ ?_)
          exact ⟨a, B, sI, pins, z', G', cls, d, rfl, J, nb, (up.trans up3).trans up4, .inr (.inr (by rw [hs]; exact sk4)), na, os, ag, w⟩
        first
          | exact wpAny_bind (wpAny_pure (wpAny_bind away))
          | exact wpAny_bind away
      | @plain x c ts b0 su p1 p2 hs2 l2 hc go r ih =>
        rintro ⟨b, e, yes, no⟩
        refine wpAny_handleBy_cons (codeAny_handlers_test ?_) fun z => nomatch z
        refine test hc ((PySem.W.exm_one (M := model X.prog X.w) J3.kIn looks e).here ?_)
        cases b with
        | false => exact ih (no rfl)
        | true =>
          refine codeAny_handlers_suite (HandSPX.lands_againZ fl3 fun h4 fl4 up4 => ?_)
          have J4 : Inv X pins z' G' { s' with heap := h4 } := J.landed nb fl4.1 ((up.trans up3).trans up4) os ag
          obtain ⟨o4, w4, at4, cl4, fd4⟩ := fl4.there
          refine wpAny_mono ((go a o4 cls d (X.pn ++ pins) cl4 ⟨_, fd4⟩).run [] _ _ G' _ (J4.suite at4 fd4 na nL nF) (yes rfl a na)) (fun f s6 q => ?_) fun _ _ q => False.elim q
          cases f with
          | ret u =>
            obtain ⟨v6, z6, G6, Z6, r6, y6⟩ := q
            exact ⟨_, _, _, Z6.unsuite ok, r6, y6⟩
          | next => exact let ⟨z6, G6, Z6, y6⟩ := q; ⟨_, _, Z6.unsuite ok, y6⟩
          | brk => exact let ⟨z6, G6, Z6, y6⟩ := q; ⟨_, _, Z6.unsuite ok, y6⟩
          | cont => exact let ⟨z6, G6, Z6, y6⟩ := q; ⟨_, _, Z6.unsuite ok, y6⟩
      | @named x n i c ts b0 su p1 p2 hs2 l2 hc hN hi hl go r ih =>
        rintro ⟨b, e, yes, no⟩
        refine wpAny_handleBy_cons (codeAny_handlers_test ?_) fun z => nomatch z
        refine test hc ((PySem.W.exm_one (M := model X.prog X.w) J3.kIn looks e).here ?_)
        cases b with
        | false => exact ih (no rfl)
        | true =>
          refine codeAny_handlers_suite_as (HandSPX.lands_againZ fl3 fun h4 fl4 up4 => ?_)
          have J4 : Inv X pins z' G' { s' with heap := h4 } := J.landed nb fl4.1 ((up.trans up3).trans up4) os ag
          obtain ⟨o4, w4, at4, cl4, fd4⟩ := fl4.there
          refine store_ok (X := X.suite a ((a, o4) :: (X.pn ++ pins))) (v := .ref a) (J4.suite at4 fd4 na nL nF) hN hi (.inl hl) rfl (fun s5 S5 => ?_) (.inr hl)
          have over : ∀ {s6 : Shared} {z6 : L2.St} {G6 : Hp} {Q : Shared → Prop}, Inv (X.suite a ((a, o4) :: (X.pn ++ pins))) [] z6 G6 s6 → (∀ s7, Inv X pins (z6.set i none) G6 s7 → Q s7) → wpAny (model X.prog X.w) X.A (do bindName X.env n .none; unbindBehindTheSuite X.env n p2) (fun _ s7 => Q s7) X.xe s6 := fun Z6 hq => gone_ok (Z6.unsuite ok) hN hi hl hq
          refine wpAny_mono ((go a o4 cls d (X.pn ++ pins) cl4 ⟨_, fd4⟩).run [] s5 _ G' _ S5 (yes rfl a na)) (fun f s6 q => ?_) fun _ _ q => False.elim q
          cases f with
          | ret u =>
            obtain ⟨v6, z6, G6, Z6, r6, y6⟩ := q
            exact over Z6 fun s7 J7 => ⟨_, _, _, J7, r6, y6⟩
          | next => exact let ⟨z6, G6, Z6, y6⟩ := q; over Z6 fun s7 J7 => ⟨_, _, J7, y6⟩
          | brk => exact let ⟨z6, G6, Z6, y6⟩ := q; over Z6 fun s7 J7 => ⟨_, _, J7, y6⟩
          | cont => exact let ⟨z6, G6, Z6, y6⟩ := q; over Z6 fun s7 J7 => ⟨_, _, J7, y6⟩
    exact run hh w
  · cases f with
    | next => exact let ⟨z', G', J', q⟩ := end1; wpAny_execs_nil ⟨z', G', J'.ofTry ok, q⟩
    | brk => exact let ⟨z', G', J', q⟩ := end1; ⟨z', G', J'.ofTry ok, q⟩
    | cont => exact let ⟨z', G', J', q⟩ := end1; ⟨z', G', J'.ofTry ok, q⟩
    | ret u => exact let ⟨v, z', G', J', r, q⟩ := end1; ⟨v, z', G', J'.ofTry ok, r, q⟩
end
end Cc

/-! Lambdas as values (one parameter with a default, or none): kept in lists, called later by a def that catches what they raise. -/
namespace Cc
open PySem PySem.Spec PyProof.Rows L2
open LamX PySem.W
/-- a lambda's data, its defaults at dv -/
abbrev laFn (q : Str) (params : Arguments) (body : Expr) (scope : Scope) (cl : List (Str × Addr)) (pm dv cdv ct : Value) : FuncData := { kla_fn "<lambda>" q params body scope cl pm cdv ct with defaults := dv }
abbrev laObj (q : Str) (params : Arguments) (body : Expr) (scope : Scope) (cl : List (Str × Addr)) (pm dv : Value) (c' : Addr) (ctv : Value) : Obj := { cls := .type "function", data := .func (laFn q params body scope cl pm dv (.ref c') ctv) }
section
variable {M : Model} {A : Around} {E : Value → Shared → Prop} {s : Shared} {qual : Str} {params : Arguments} {body : Expr} {scope : Scope} {env : Env} {c P : Addr} {ps : Array Value} {pos : Pos} {n : Nat} {mg : Str → Option Value} {clos : List (Str × Addr)} {Q : Value → Shared → Prop} {dv : Value}
theorem la_new (hcl : closureFor scope env = pure clos) (hge : env.globals = mainGlobals) (hg : s.heap.Ns mainGlobals mg) (hcode : env.code = .ref c) (C : CodeHd s.heap c P) (hP : s.heap.get? P = some { cls := .none, data := .fields ps }) (ht : TriplesOk ps.toList)
    (hno : codeAmong pos ps.toList = none) (hgP : mainGlobals ≠ P) (hb : s.heap.BuiltinsAt mg P)
    (h : ∀ c' ctv h' tk, Heap.ExtBut P s.heap h' → s.heap.objs.size ≤ c' → c' < h'.objs.size → h'.CodeRec (.ref c') qual → h'.get? P = some { cls := .none, data := .fields (ps ++ #[rawInt pos.line, rawInt pos.col, .ref c']) } →
      Q (.ref h'.objs.size) { s with heap := h'.push (laObj qual params body scope clos ((mg "__name__").getD .none) dv c' ctv), toks := tk }) :
    wpAny M A (makeTail "<lambda>" qual params (.expr body) scope env dv .none none pos n) Q E s := by
  obtain ⟨bm, ob, b1, b2, _, b3, b4, b5, b6, b7⟩ := hb
  unfold makeTail
  rw [hcl, hge]
  refine wpAny_bind (wpAny_pure ?_); cases clos with
  | nil =>
    simp only [List.isEmpty_nil, if_true]; refine wpAny_bind (wpAny_pure (wpAny_bind (wpAny_functionCodeX hcode (C.code hP ht) (C.tab hP) hno fun c' h' tk hx hsz hlt _ hrec htb _ => ?_)))
    have g' := hg.extBut hx hgP
    exact wpAny_bind (wpAny_builtinsFor g' b1 b2 (hx _ _ b3 b4) b5 b6 b7 (wpAny_bind (wpAny_nsGet g' (wpAny_bind (wpAny_pure (wpAny_newObj_type (h c' .none h' tk hx hsz hlt hrec htb.2) (by size_fits)))))))
  | cons q r =>
    simp only [List.isEmpty_cons, Bool.false_eq_true, if_false]; refine wpAny_bind (wpAny_newTextTuple (wpAny_bind (wpAny_functionCodeX hcode ((C.keeps fun b o e => Heap.get?_push_of_some _ e).code (Heap.get?_push_of_some _ hP) ht) ((C.keeps fun b o e => Heap.get?_push_of_some _ e).tab (Heap.get?_push_of_some _ hP)) hno fun c' h' tk hx hsz hlt _ hrec htb _ => ?_)))
    have g' := (hg.push _).extBut hx hgP
    have hx2 : Heap.ExtBut P s.heap h' := fun b o nb e => hx b o nb (Heap.get?_push_of_some _ e)
    have hsz2 : s.heap.objs.size ≤ c' := Nat.le_trans (by rw [Heap.size_push]; exact Nat.le_succ _) hsz
    exact wpAny_bind (wpAny_builtinsFor g' b1 b2 (hx2 _ _ b3 b4) b5 b6 b7 (wpAny_bind (wpAny_nsGet g' (wpAny_bind (wpAny_pure (wpAny_newObj_type (h c' _ h' tk hx2 hsz2 hlt hrec htb.2) (by size_fits)))))))
theorem la_hit {c' : Addr} (hcl : closureFor scope env = pure clos) (hge : env.globals = mainGlobals) (hg : s.heap.Ns mainGlobals mg) (hcode : env.code = .ref c) (C : CodeHd s.heap c P) (hP : s.heap.get? P = some { cls := .none, data := .fields ps }) (ht : TriplesOk ps.toList)
    (hyes : codeAmong pos ps.toList = some (.ref c')) (hb : s.heap.BuiltinsAt mg P) (h : ∀ (ctv : Value) (h' : Heap) (tk : Tok), (∀ b o, s.heap.get? b = some o → h'.get? b = some o) → s.heap.objs.size ≤ h'.objs.size →
      Q (.ref h'.objs.size) { s with heap := h'.push (laObj qual params body scope clos ((mg "__name__").getD .none) dv c' ctv), toks := tk }) :
    wpAny M A (makeTail "<lambda>" qual params (.expr body) scope env dv .none none pos n) Q E s := by
  obtain ⟨bm, ob, b1, b2, _, b3, b4, b5, b6, b7⟩ := hb
  unfold makeTail
  rw [hcl, hge]
  refine wpAny_bind (wpAny_pure ?_); cases clos with
  | nil =>
    simp only [List.isEmpty_nil, if_true]; exact wpAny_bind (wpAny_pure (wpAny_bind (wpAny_functionCode_hit hcode (C.code hP ht) hyes (wpAny_bind (wpAny_builtinsFor hg b1 b2 b4 b5 b6 b7 (wpAny_bind (wpAny_nsGet hg (wpAny_bind (wpAny_pure (wpAny_newObj_type (h .none s.heap s.toks (fun _ _ e => e) (Nat.le_refl _)) (by size_fits)))))))))))
  | cons q r =>
    simp only [List.isEmpty_cons, Bool.false_eq_true, if_false]; refine wpAny_bind (wpAny_newTextTuple (wpAny_bind (wpAny_functionCode_hit hcode ((C.keeps fun b o e => Heap.get?_push_of_some _ e).code (Heap.get?_push_of_some _ hP) ht) hyes ?_)))
    have up : ∀ oT : Obj, s.heap.objs.size ≤ (s.heap.push oT).objs.size := fun oT => by rw [Heap.size_push]; exact Nat.le_succ _
    exact wpAny_bind (wpAny_builtinsFor (hg.push _) b1 b2 (Heap.get?_push_of_some _ b4) b5 b6 b7 (wpAny_bind (wpAny_nsGet (hg.push _) (wpAny_bind (wpAny_pure (wpAny_newObj_type (h _ _ s.toks (fun b o e => Heap.get?_push_of_some _ e) (up _)) (by size_fits)))))))
end
/-! ### the lambda as a value -/
def LamO (f : Addr) (q : Str) (params : Arguments) (body : Expr) (scope : Scope) (cl : List (Str × Addr)) (c' : Addr) (dv : Value) : HO := .ext fun h => ∃ pm ctv, h.get? f = some (laObj q params body scope cl pm dv c' ctv)
/-- a lambda at f, its defaults ds -/
def LamAt (H : Hp) (f : Addr) (q : Str) (params : Arguments) (body : Expr) (scope : Scope) (cl : List (Str × Addr)) (ds : List V) : Prop :=
  ∃ c' dv, H f = some (LamO f q params body scope cl c' dv) ∧ H c' = some (CodeO c' q) ∧ ((ds = [] ∧ dv = .none) ∨ ∃ T v, ds = [v] ∧ dv = .ref T ∧ H T = some (.tup [v]))
theorem lamO_ne {f : Addr} {q : Str} {params : Arguments} {body : Expr} {scope : Scope} {cl : List (Str × Addr)} {c' : Addr} {dv : Value} (ps : Array Value) : LamO f q params body scope cl c' dv ≠ .tbl ps := fun z => by
  unfold LamO at z
  cases z
theorem LamAt.ext {H H1 : Hp} {f : Addr} {q : Str} {params : Arguments} {body : Expr} {scope : Scope} {cl : List (Str × Addr)} {ds : List V} (h : LamAt H f q params body scope cl ds) (e : ExtN H H1) : LamAt H1 f q params body scope cl ds := by
  obtain ⟨c', dv, h1, h2, h3⟩ := h
  refine ⟨c', dv, e _ _ h1 lamO_ne, e _ _ h2 codeO_ne, h3.imp id fun ⟨T, v, z1, z2, z3⟩ => ⟨T, v, z1, z2, e _ _ z3 fun _ z => by cases z⟩⟩
def tLamV (T : List (Addr × Str)) (q : Str) (params : Arguments) (body : Expr) (scope : Scope) (cl : List (Str × Addr)) (ds : List V) : TE := fun σ H Q => Tabs T H ∧ ∀ f H1, H f = none → ExtN H H1 → Tabs T H1 → LamAt H1 f q params body scope cl ds → Q (.ref f) H1
section
variable {X : Cx} {pins : List (Addr × Obj)} {σ : L2.St} {H : Hp} {s : Shared} {T : List (Addr × Str)} {c P : Addr} {params : Arguments} {body : Expr} {scope : Scope} {pos : Pos}
/-- the made function is tracked -/
theorem lam_in {s' : Shared} {h' : Heap} {tk : Nat} {cl : List (Str × Addr)} {pm dv ctv : Value} {c' : Addr} {q : Str} (I : Inv X pins σ H { s' with heap := h', toks := tk }) :
    Inv X pins σ (upd H h'.objs.size (LamO h'.objs.size q params body scope cl c' dv)) { s' with heap := h'.push (laObj q params body scope cl pm dv c' ctv), toks := tk } :=
  I.laid (t' := tk) (fun b o e => Heap.get?_push_of_some _ e) (Nat.le_refl _) ⟨⟨_, _, Heap.get?_push_size _ rfl⟩, ⟨_, Heap.get?_push_size _ rfl⟩, fun h1 h2 ⟨pm, ctv, e⟩ st => ⟨pm, ctv, st _ e⟩⟩
theorem la_tail {dv : Value} {ds : List V} {E : Value → Shared → Prop} {Q : Value → Shared → Prop} (I : Inv X pins σ H s) (TB : TabB X.base X.mg c P) (hcode : X.env.code = .ref c) (hm : (P, X.env.qual ++ "<lambda>") ∈ T) (hu : ∀ p ∈ T, p.1 = P → p.2 = X.env.qual ++ "<lambda>") (hT : Tabs T H)
    (hfree : ∀ y ∈ scope.names, y.2 = .free → ∃ c, X.env.cells.lookup y.1 = some c) (hd : (ds = [] ∧ dv = .none) ∨ ∃ T v, ds = [v] ∧ dv = .ref T ∧ H T = some (.tup [v]))
    (h : ∀ (f : Addr) (H1 : Hp) (s' : Shared), H f = none → Inv X pins σ H1 s' → ExtN H H1 → Tabs T H1 → LamAt H1 f (X.env.qual ++ "<lambda>") params body scope (cloFrom X.env.cells scope.names []) ds → Q (.ref f) s') :
    wpAny (model X.prog X.w) X.A (makeTail "<lambda>" (X.env.qual ++ "<lambda>") params (.expr body) scope X.env dv .none none pos pos.line) Q E s := by
  obtain ⟨ps, hP, ht, ha⟩ := hT _ hm; have bP : s.heap.BuiltinsAt X.mg P := TB.bm.keeps I.bk
  have atP : s.heap.get? P = some { cls := .none, data := .fields ps } := I.hok P _ hP
  -- a fresh place told: all that is wanted
  have last : ∀ (f c' : Addr) (H1 : Hp) (s' : Shared), H f = none → H1 f = none → ExtN H H1 → Tabs T H1 → H1 c' = some (CodeO c' (X.env.qual ++ "<lambda>")) → Inv X pins σ (upd H1 f (LamO f (X.env.qual ++ "<lambda>") params body scope (cloFrom X.env.cells scope.names []) c' dv)) s' → Q (.ref f) s' := by
    intro f c' H1 s' nf nf1 eN T1 hc J
    have e1 : ∀ b o, H1 b = some o → upd H1 f (LamO f (X.env.qual ++ "<lambda>") params body scope (cloFrom X.env.cells scope.names []) c' dv) b = some o := fun b o e => by
      rw [upd_ne (ne_of_none e nf1)]
      exact e
    exact h f _ s' nf J (eN.trans (ExtN.of e1)) (T1.ext e1) ⟨c', dv, upd_same, e1 _ _ hc, hd.imp id fun ⟨t, v, z1, z2, z3⟩ => ⟨t, v, z1, z2, e1 _ _ (eN _ _ z3 fun _ z => by cases z)⟩⟩
  cases hck : codeAmong pos ps.toList with
  | none =>
    refine la_new (mg := X.mg) (c := c) (P := P) (ps := ps) (closure_ok hfree) I.ok.glob (I.mod.glob.keeps I.bk) hcode (TB.code.keeps I.bk) atP ht hck TB.gP bP fun c' ctv h' tk hx hge hlt hrec htb => ?_
    obtain ⟨c2, oc, vs, t, e2, hoc, hdat, hv⟩ := hrec
    cases e2
    have nC : H c' = none := I.hok.fresh hge; have J := inv_table (t' := tk) (more := #[rawInt pos.line, rawInt pos.col, .ref c']) (h' := h') I hP hx htb hge ⟨oc, vs, t, hoc, hdat, hv⟩
    have eN : ExtN H (upd (upd H P (.tbl (ps ++ #[rawInt pos.line, rawInt pos.col, .ref c']))) c' (CodeO c' (X.env.qual ++ "<lambda>"))) := fun b o e n => by
      have nP : b ≠ P := fun z => n ps (by rw [z, hP] at e; exact (Option.some.inj e).symm)
      rw [upd_ne (ne_of_none e nC), upd_ne nP]
      exact e
    have szf : s.heap.objs.size ≤ h'.objs.size := Nat.le_trans hge (Nat.le_of_lt hlt)
    have nf : H h'.objs.size = none := I.hok.fresh szf
    refine last h'.objs.size c' _ _ nf (J.hok.fresh (Nat.le_refl _)) eN (fun p hp => ?_) upd_same (lam_in J)
    by_cases hb : p.1 = P
    · rw [hu p hp hb, hb]
      have el : (ps ++ #[rawInt pos.line, rawInt pos.col, .ref c']).toList = ps.toList ++ [rawInt pos.line, rawInt pos.col, .ref c'] := by simp
      refine ⟨_, by rw [upd_ne (ne_of_none hP nC), upd_same], by rw [el]; exact PySem.TriplesOk_snoc _ _ _ _ ht, fun p' cv hcv => ?_⟩
      rw [el] at hcv; rcases among_app _ ht hcv with z | z
      · obtain ⟨c0, z1, z2⟩ := ha p' cv z
        exact ⟨c0, z1, eN _ _ z2 codeO_ne⟩
      · exact ⟨c', z, upd_same⟩
    · obtain ⟨ps2, a1, a2, a3⟩ := hT p hp
      refine ⟨ps2, by rw [upd_ne (ne_of_none a1 nC), upd_ne hb]; exact a1, a2, fun p' cv hcv => ?_⟩
      obtain ⟨c0, z1, z2⟩ := a3 p' cv hcv
      exact ⟨c0, z1, eN _ _ z2 codeO_ne⟩
  | some cv =>
    obtain ⟨c', e, hco⟩ := ha pos cv hck; subst e
    refine la_hit (mg := X.mg) (c := c) (P := P) (ps := ps) (closure_ok hfree) I.ok.glob (I.mod.glob.keeps I.bk) hcode (TB.code.keeps I.bk) atP ht hck bP fun ctv h' tk hx hsz => ?_
    have J : Inv X pins σ H { s with heap := h', toks := tk } := I.kept hx
    exact last h'.objs.size c' H _ (I.hok.fresh hsz) (J.hok.fresh (Nat.le_refl _)) (ExtN.refl H) hT hco (lam_in J)
theorem pe_lam0 (TB : TabB X.base X.mg c P) (hcode : X.env.code = .ref c) (hm : (P, X.env.qual ++ "<lambda>") ∈ T) (hu : ∀ p ∈ T, p.1 = P → p.2 = X.env.qual ++ "<lambda>") (hdef : defaultsOf params X.env = ([], [])) (hkw : params.kwonlyargs = [] := by rfl)
    (hfree : ∀ (ok : X.Ok), ∀ y ∈ scope.names, y.2 = .free → ∃ c, X.env.cells.lookup y.1 = some c) : PE X (.Lambda params body scope pos) (tLamV T (X.env.qual ++ "<lambda>") params body scope (cloFrom X.env.cells scope.names []) []) := by
  refine ⟨fun pins s σ H Q I h => kla_eval hdef ?_⟩
  rw [makeFunction_eq]
  simp only [List.zip_nil_right, List.filterMap_nil, List.isEmpty_nil, if_true, pure_bind]; exact la_tail I TB hcode hm hu h.1 (hfree I.ok) (.inl ⟨rfl, rfl⟩) fun f H1 s' nf J e1 e2 e3 => ⟨.ref f, H1, J, rfl, h.2 f H1 nf e1 e2 e3⟩
theorem pe_lam1 {e : Expr} {i : Int} (TB : TabB X.base X.mg c P) (hcode : X.env.code = .ref c) (hm : (P, X.env.qual ++ "<lambda>") ∈ T) (hu : ∀ p ∈ T, p.1 = P → p.2 = X.env.qual ++ "<lambda>") (hdef : defaultsOf params X.env = ([eval e X.env], [])) (he : PE X e (tC (.int i)))
    (hfree : ∀ (ok : X.Ok), ∀ y ∈ scope.names, y.2 = .free → ∃ c, X.env.cells.lookup y.1 = some c) : PE X (.Lambda params body scope pos) (tLamV T (X.env.qual ++ "<lambda>") params body scope (cloFrom X.env.cells scope.names []) [.int i]) := by
  refine ⟨fun pins s σ H Q I h => ?_⟩
  rw [arm_eval_Lambda, hdef]
  show wpAny _ _ (do let dv ← evalAll [eval e X.env]; let kdv ← holding dv (evalAllOpt []); makeFunction "<lambda>" (X.env.qual ++ "<lambda>") params (.expr body) scope X.env dv kdv [] pos pos.line) _ _ s
  refine wpAny_bind (wpAny_bind (thn (he.run pins s σ H (fun v H1 => v = .int i ∧ H1 = H) I ⟨rfl, rfl⟩) fun u s1 ⟨v, H1, I1, r1, e1, e2⟩ => ?_))
  subst e1 e2
  refine wpAny_bind (wpAny_holding (wpAny_pure (wpAny_pure (wpAny_bind (wpAny_holding (wpAny_pure ?_))))))
  rw [makeFunction_eq]
  simp only [List.zip_nil_right, List.filterMap_nil, List.isEmpty_nil, if_true, pure_bind, List.isEmpty_cons, Bool.false_eq_true, if_false]
  refine wpAny_bind (wpAny_newTextTuple ?_); have nT : H1 s1.heap.objs.size = none := I1.hok.fresh (Nat.le_refl _)
  have J : Inv X pins σ (upd H1 s1.heap.objs.size (.tup [.int i])) { s1 with heap := s1.heap.push { cls := .type "tuple", data := .seq [u].toArray } } :=
    I1.laid (t' := s1.toks) (fun b o e => Heap.get?_push_of_some _ e) (Nat.le_refl _) ⟨by show 1 ≤ sizeLine; decide, [u], .cons r1 .nil, ⟨_, Heap.get?_push_size _ rfl, rfl, _, rfl⟩⟩
  have e0 : ∀ b o, H1 b = some o → upd H1 s1.heap.objs.size (.tup [.int i]) b = some o := same_upd nT
  refine la_tail J TB hcode hm hu (h.1.ext e0) (hfree I.ok) (.inr ⟨s1.heap.objs.size, .int i, rfl, rfl, upd_same⟩) fun f H2 s' nf J2 g1 g2 g3 => ⟨.ref f, H2, J2, rfl, h.2 f H2 ?_ ((ExtN.of e0).trans g1) g2 g3⟩
  by_cases q : f = s1.heap.objs.size
  · rw [q]
    exact nT
  · rw [upd_ne q] at nf
    exact nf
end
end Cc

/-! A lambda called: its body runs among what it captured. -/
namespace Cc
open PySem PySem.Spec PyProof.Rows L2
open LamX
/-- its names: captured ones, globals, own parameters that are no names of the def around it -/
structure LamN (N : List Str) (sc scope : Scope) : Prop where
  kind : scope.kind = .function
  (co : scope.isCoroutine = false)
  (gen : scope.isGenerator = false)
  own : ∀ y ∈ scope.names, y.2 ≠ .cell ∧ (y.2 = .local → y.1 ∉ N)
  (free : ∀ y ∈ scope.names, y.2 = .free → sc.names.lookup y.1 = some .cell ∨ sc.names.lookup y.1 = some .free)
def lamNB (N : List Str) (sc scope : Scope) : Bool :=
  decide (scope.kind = .function) && !scope.isCoroutine && !scope.isGenerator && scope.names.all fun y => !decide (y.2 = .cell) && (!decide (y.2 = .local) || !N.contains y.1) && (!decide (y.2 = .free) || decide (sc.names.lookup y.1 = some .cell) || decide (sc.names.lookup y.1 = some .free))
theorem lamN_by {N : List Str} {sc scope : Scope} (h : lamNB N sc scope = true) : LamN N sc scope := by
  unfold lamNB at h
  simp only [Bool.and_eq_true, Bool.or_eq_true, Bool.not_eq_true', decide_eq_true_eq, decide_eq_false_iff_not, List.all_eq_true] at h; obtain ⟨⟨⟨h1, h2⟩, h3⟩, h4⟩ := h
  refine ⟨h1, h2, h3, fun y hy => ⟨(h4 y hy).1.1, fun e => ?_⟩, fun y hy e => ?_⟩
  · rcases (h4 y hy).1.2 with z | z
    · exact absurd e z
    · intro m
      rw [List.contains_iff_mem.mpr m] at z
      cases z
  · rcases (h4 y hy).2 with (z | z) | z
    · exact absurd e z
    · exact .inl z
    · exact .inr z
theorem LamN.has {X : Cx} {scope : Scope} (L : LamN X.N X.env.scope scope) (ok : X.Ok) : ∀ y ∈ scope.names, y.2 = .free → ∃ c, X.env.cells.lookup y.1 = some c := fun y hy e => ok.has _ (L.free y hy e)
section
variable {X : Cx} {pins : List (Addr × Obj)} {σ : L2.St} {H HZ : Hp}
variable {s s1 : Shared}
theorem la_start {A : Around} {outer : List Env} {E : XK} {scope : Scope} {f c' : Addr} {h₁ : Heap} {tk : Nat} {m : Str → Option Value} (I : Inv X pins σ H s) (L : LamN X.N X.env.scope scope) (e0 : Env0 X.prog X.w X.K X.mg X.base A outer s1 HZ) (hd : A.handled = none)
    (un : Un (frs X.stack) [] H HZ s.heap s1.heap) (hns : h₁.Ns s1.heap.objs.size m) (kp : ∀ b o, s1.heap.get? b = some o → h₁.get? b = some o) :
    Inv (lamCx X A outer s1 HZ E scope f c') ([] : List (Addr × Obj)) σ HZ { s1 with heap := h₁, toks := tk } := by
  have caught : ∀ {y c}, (cloFrom X.env.cells scope.names []).lookup y = some c → X.env.cells.lookup y = some c := fun {y c} e => by
    rcases cloFrom_mem (PySem.mem_of_lookup e) with hmm | ⟨h1, h2⟩
    · cases hmm
    · obtain ⟨c1, hc⟩ := L.has I.ok _ h1 rfl
      rw [h2, hc]
      rfl
  have seen : ∀ {y}, scope.names.lookup y = some .free → ∃ c, (cloFrom X.env.cells scope.names []).lookup y = some c := fun {y} hl => mem_lookup (cloFrom_has (cells := X.env.cells) (acc := []) (show (y, NameKind.free) ∈ scope.names from PySem.mem_of_lookup hl))
  have stays : ∀ {c : Addr} {v : Option Value}, H c = none → s.heap.IsCell c v → h₁.IsCell c v := fun {c v} n ⟨o, ho, hdat⟩ => by
    obtain ⟨sl, q⟩ := un.any ho n (fun z => nomatch z)
    exact ⟨_, kp _ _ q, hdat⟩
  have noX : ∀ b : Addr, b ∉ (lamCx X A outer s1 HZ E scope f c').ex := fun b z => nomatch (show b ∈ ([] : List Addr) from z)
  refine ⟨⟨e0.mod, L.kind, rfl, rfl, Nat.le_refl _, fun y z c e1 e2 => I.ok.inj y z c (caught e1) (caught e2), fun y hy => ?_, fun y c z _ => (nomatch (show false = true from z)), fun _ => hd, Around.frames_deeper e0.frames, .inr ⟨rfl, rfl⟩, fun b z => absurd z (noX b), e0.bs, e0.bsz, fun b _ _ => noX b,
      fun b z => absurd z (noX b), e0.funs, e0.frf⟩,
    rfl, e0.bare, Un.kept kp, ⟨_, hns, fun i y v e1 e2 e3 => ?_⟩, fun y c e => ?_, e0.hok.fresh (Nat.le_refl _), fun y c e => ?_, fun q hq => (nomatch (show q ∈ ([] : List (Addr × Obj)) from hq)), e0.hok.kept kp, I.len⟩
  · have hy : scope.names.lookup y = some .cell ∨ scope.names.lookup y = some .free := hy; rcases hy with hy | hy
    · exact absurd rfl (L.own _ (PySem.mem_of_lookup hy)).1
    · exact seen hy
  · have e3 : Vis scope y := e3
    rcases e3 with k | k | k
    · exact absurd (List.mem_of_getElem? e1) ((L.own _ (PySem.mem_of_lookup k)).2 rfl)
    · exact (L.own _ (PySem.mem_of_lookup k)).1 rfl |>.elim
    · obtain ⟨m0, hn, hl⟩ := I.loc
      have way := L.free _ (PySem.mem_of_lookup k) rfl
      obtain ⟨u, r, q⟩ := hl i y v e1 e2 (way.elim (fun k => .inr (.inl k)) fun k => .inr (.inr k))
      obtain ⟨c2, h2⟩ := seen k
      refine ⟨u, r, .inr ⟨.inr k, c2, h2, ?_⟩⟩; rcases q with ⟨k', _⟩ | ⟨_, c3, e', z⟩
      · have k' : X.env.scope.names.lookup y = some .local := k'; rcases way with k2 | k2
        · rw [k'] at k2
          cases k2
        · rw [k'] at k2
          cases k2
      · rw [caught h2] at e'
        cases e'
        exact stays (I.freeC y _ (caught h2)) z
  · obtain ⟨u, z⟩ := I.cell y c (caught e)
    exact ⟨u, stays (I.freeC y c (caught e)) z⟩
  · obtain ⟨v, o, ho, _⟩ := I.cell y c (caught e)
    exact un.free c o ho (I.freeC y c (caught e)) (fun z => nomatch z)
/-- how its arguments bind -/
def LamBind (params : Arguments) (body : Expr) (scope : Scope) (ds : List V) : Prop :=
  (ds = [] ∧ ∀ (q : Str) (cl : List (Str × Addr)) (pm cv ctv : Value), bindArgs (laFn q params body scope cl pm .none cv ctv) ⟨[], []⟩ = pure []) ∨
  (∃ x, scope.names.lookup x = some .local ∧ ∀ (q : Str) (cl : List (Str × Addr)) (pm cv ctv : Value) (T : Addr) (u : Value), ∃ k, bindArgs (laFn q params body scope cl pm (.ref T) cv ctv) ⟨[], []⟩ = seqItems? (.ref T) >>= k ∧ k (some #[u]) = pure [(x, u)])
/-- x(), x bound to the lambda, in a def called from where it was made -/
theorem la_act {CXg : CXT} {Eg : XK} {Ng : List Str} {qg : Str} {sg : Scope} {g f : Addr} {cdg : Value} {params : Arguments} {body : Expr} {scope : Scope} {ds : List V} {k i : Nat} {a : Str} {pn : List (Addr × Obj)} {xe : Value → Shared → Prop} {W : WX} {E : XK} {tb : TE} {p1 p2 : Pos}
    (I : Inv X pins σ H s) (L : LamN X.N X.env.scope scope) (hbind : LamBind params body scope ds) (hds : ds = [] → ∀ (q : Str) (cl : List (Str × Addr)) (pm cv ctv : Value), bindArgs (laFn q params body scope cl pm .none cv ctv) ⟨[], []⟩ = pure [])
    (tk : Takes ((cxOf CXg X.prog X.w X.K X.mg X.base Ng qg sg g cdg X.A X.stack s H Eg).tr pn xe) W) (hW : ∀ cls d σ' H', E cls d H' → W cls d σ' H') (hr : Room (k + 1) (X.A.deeper (envOfC qg sg s.heap.objs.size g cdg))) (hbody : ∀ (A : Around) (outer : List Env) (s : Shared) (H : Hp) (c' : Addr), Room k (A.deeper (lamEnv X scope s.heap.objs.size f c')) → PE (lamCx X A outer s H E scope f c') body tb)
    (hN : Ng[i]? = some a) (hv : Vis sg a) (hd : (a == ("__debug__" : Str)) = false := by decide) (hcd : (a == ("__classdict__" : Str)) = false := by decide) : PE ((cxOf CXg X.prog X.w X.K X.mg X.base Ng qg sg g cdg X.A X.stack s H Eg).tr pn xe) (.Call (.Name a p1) [] [] p2)
      (fun σZ HZ Q => σZ[i]? = some (some (.ref f)) ∧ LamAt HZ f (X.env.qual ++ "<lambda>") params body scope (cloFrom X.env.cells scope.names []) ds ∧ tb σ HZ Q) := by
  refine ⟨fun pinsZ sZ σZ HZ Q IZ ⟨hs, hlam, ht⟩ => ?_⟩
  refine wpAny_Call_Name_kw (thn ((pe_var (pos := p1) (i := i) hN hv hd hcd).run pinsZ sZ σZ HZ (fun v H1 => v = .ref f ∧ H1 = HZ) IZ ⟨.ref f, hs, rfl, rfl⟩) fun u z1 ⟨v, H1, I1, r1, ev, eH⟩ => ?_)
  subst ev
  subst eH
  cases (show u = Value.ref f from r1)
  obtain ⟨c', dv, hO, hC, hD⟩ := hlam
  obtain ⟨⟨pm, ctv, of1⟩, _, _⟩ := I1.hok f _ hO
  obtain ⟨⟨oc, vs, t, hoc, hdc, hvc⟩, _, _⟩ := I1.hok c' _ hC
  refine PySem.W.callWith_F0 ⟨_, _, _, _, of1⟩ ?_; have un : Un (frs X.stack) [] H H1 s.heap z1.heap := I1.base
  have bindsTo : ∀ {M : Model} {A' : Around} {Qb : List (Str × Value) → Shared → Prop} {Eb : Value → Shared → Prop}, (∀ binds : List (Str × Value), (∀ y ∈ binds, scope.names.lookup y.1 = some .local) → Qb binds z1) → wpAny M A' (bindArgs (laFn (X.env.qual ++ "<lambda>") params body scope (cloFrom X.env.cells scope.names []) pm dv (.ref c') ctv) ⟨[], []⟩) Qb Eb z1 := fun {M A' Qb Eb} hq => by
    rcases hD with ⟨e1, e2⟩ | ⟨T, v, e1, e2, e3⟩
    · subst e2
      rw [hds e1]
      exact wpAny_pure (hq [] fun y hy => nomatch hy)
    · subst e2
      rcases hbind with ⟨z, _⟩ | ⟨x, hx, hb⟩
      · rw [e1] at z
        cases z
      · obtain ⟨_, its, rits, o, ho, _, n, hdat⟩ := I1.hok T _ e3
        obtain ⟨u, eu, ru⟩ := rits.one
        obtain ⟨kk, k1, k2⟩ := hb (X.env.qual ++ "<lambda>") (cloFrom X.env.cells scope.names []) pm (.ref c') ctv T u
        rw [k1]
        refine wpAny_bind (wpAny_seqItems ho hdat ?_)
        rw [eu]
        show wpAny _ _ (kk (some #[u])) _ _ _
        rw [k2]
        exact wpAny_pure (hq _ fun y hy => by rw [List.mem_singleton.mp hy]; exact hx)
  have rc : codeAny (model X.prog X.w) (X.A.deeper (envOfC qg sg s.heap.objs.size g cdg)) (.call (.ref f) ⟨[], []⟩) (CR (L2.CX X.prog X.w) (envOfC qg sg s.heap.objs.size g cdg :: X.stack) X.prog X.w H1 z1 Q E) z1 := by
    refine PySem.W.kla_callFunE hr.depth of1 rfl L.co L.gen rfl ⟨c', oc, vs, t, rfl, hoc, hdc, hvc⟩ (bindsTo fun binds hbs => wpAny_newFunctionEnv (fun y hy => (L.own y hy).1) hbs (fun h₁ hns hsb => ⟨I1.nolimit.fresh _ hsb, ?_⟩) L.kind)
    show codeAny _ _ (.expr body (lamEnv X scope z1.heap.objs.size f c')) _ _
    have kp : ∀ b o, z1.heap.get? b = some o → h₁.get? b = some o := fun b o e => hsb.extBut b o (Nat.ne_of_lt (Heap.lt_size e)) (Heap.get?_push_of_some _ e)
    have J : Inv (lamCx X (X.A.deeper (envOfC qg sg s.heap.objs.size g cdg)) (envOfC qg sg s.heap.objs.size g cdg :: X.stack) z1 H1 E scope f c') [] σ H1 { z1 with heap := h₁, toks := z1.toks + binds.length } := la_start I L I1.env0 hr.hd un hns kp
    refine PySem.W.kla_codeExpr (wpAny_mono ((hbody _ _ z1 H1 c' (hr.deeper _)).run [] _ _ H1 Q J ht) (fun v s' q => ?_) fun e s' q => q)
    obtain ⟨x', H', J', rv, q⟩ := q
    exact ⟨x', H', J'.os, J'.bare, J'.base, J'.hok, rv, q⟩
  have ps : Passes (L2.CX X.prog X.w) ((cxOf CXg X.prog X.w X.K X.mg X.base Ng qg sg g cdg X.A X.stack s H Eg).tr pn xe) E := passes_call tk hW
  refine wpAny_call (codeAny_mono rc fun r s' q => ?_)
  cases r with
  | error e => exact ps pinsZ σZ H1 z1 e s' I1 q
  | ok fl =>
    cases fl with
    | ret u => exact I1.after q
    | next => exact q.elim
    | brk => exact q.elim
    | cont => exact q.elim
end
end Cc

/-! A comprehension whose element calls a def with a lambda: what stands around the comprehension is known within. -/
namespace Cc
open PySem PySem.Spec PyProof.Rows L2
open LamX
section
variable {X : Cx}
/-- a comprehension of one clause; its element is judged where the slots around are known -/
theorem pe_lcI {el ta ia : Expr} {fs : List Expr} {sc : Scope} {own : List (Str × Nat)} {ps : Pos} {wi : TI} {g : TG} {tt : TT} {te : L2.St → TE} (hc : X.calm = true) (hN : X.N.Nodup) (hi : PI X ta ia wi) (ok : BlkOk X.N X.env.scope sc own)
    (hg : ∀ (s : Shared) (H : Hp) (C : Addr) (cl : List (Str × Addr)) (fp : List Addr), PG (X.blk s H sc (compEnvC sc cl C X.env) fp) ta g)
    (ht : ∀ (s : Shared) (H : Hp) (C : Addr) (cl : List (Str × Addr)) (fp : List Addr), PTs (X.blk s H sc (compEnvC sc cl C X.env) fp) fs tt)
    (he : ∀ (pins : List (Addr × Obj)) (σ : L2.St) (s : Shared) (H : Hp) (C : Addr) (cl : List (Str × Addr)) (fp : List Addr), Inv X pins σ H s → (∀ b ∈ fp, FpOk X pins H b) → PE (X.blk s H sc (compEnvC sc cl C X.env) fp) el (te σ))
    (hs : ∀ x, foldedSetIterable ia X.env x = pure x := by intro _; rfl) :
    PE X (.ListComp el [⟨ta, ia, fs, 0⟩] sc ps) (fun σ H Q => tLc wi g tt (te σ) (own.map (·.2)) σ H Q) := by
  refine ⟨fun pz z0 sg G0 Qq K0 h => ?_⟩
  rw [eval_ListComp]
  have frees : ∀ y ∈ sc.names, y.2 = .free → ∃ c, X.env.cells.lookup y.1 = some c := fun y hy e => K0.ok.has _ (ok.free y hy e)
  refine wpAny_comprehension_free (use := none) rfl hs (closure_ok frees) ok.kind (fun y hy e => (ok.uniq y hy).trans (congrArg some e)) (thn (hi.run pz z0 sg G0 _ K0 h) fun _ z1 h1 => thn h1 fun iv z2 h2 => ?_)
  obtain ⟨it, fp, tn, Jt, G2, rfl, K2, T, t2, f2, q⟩ := h2
  refine wpAny_newObj_type (newEnv_comp ?_) (by show 0 ≤ sizeLine; decide); obtain ⟨D, hD⟩ : ∃ D, D = z2.heap.objs.size := ⟨_, rfl⟩
  rw [← hD]
  have freeD : G2 D = none := K2.hok.fresh (Nat.le_of_eq hD.symm)
  obtain ⟨W, ⟨m0, w0⟩, turn⟩ := q D freeD
  obtain ⟨z3, hz3⟩ : ∃ z3 : Shared, z3 = { z2 with heap := z2.heap.push { cls := .type "list", data := .seq ([] : List Value).toArray } } := ⟨_, rfl⟩
  have p3 : z3.heap = z2.heap.push { cls := .type "list", data := .seq ([] : List Value).toArray } := by rw [hz3]
  have keep3 : ∀ b o, z2.heap.get? b = some o → z3.heap.get? b = some o := fun b o e => by
    rw [p3]
    exact Heap.get?_push_of_some (h := z2.heap) _ e
  have K3 : Inv X pz sg (upd G2 D (.lst [])) z3 := by
    rw [hz3]
    refine K2.laid (t' := z2.toks) (fun b o e => Heap.get?_push_of_some _ e) (Nat.le_of_eq hD.symm) ⟨Nat.zero_le _, [], 0, .nil, ?_⟩
    rw [hD]
    exact Heap.get?_push_size z2.heap rfl
  have old : ∀ b ∈ fp, b < z2.heap.objs.size := fun b hb => (T.obj _ _ t2 b hb).elim fun _ e => Heap.lt_size e.1
  have f3 : ∀ b ∈ fp, FpOk X pz (upd G2 D (.lst [])) b ∧ b < z3.heap.objs.size := fun b hb =>
    ⟨⟨by rw [upd_ne (by rw [hD]; exact Nat.ne_of_lt (old b hb))]; exact (f2 b hb).1, (f2 b hb).2⟩, by rw [p3, Heap.size_push]; exact Nat.lt_succ_of_lt (old b hb)⟩
  have K4 := block_start K3 ok hN f3
  have Bg := hg z3 (upd G2 D (.lst [])) z3.heap.objs.size (cellsFrom (z3.heap.objs.size + 1) sc.names (cloFrom X.env.cells sc.names [])) fp
  have Bt := ht z3 (upd G2 D (.lst [])) z3.heap.objs.size (cellsFrom (z3.heap.objs.size + 1) sc.names (cloFrom X.env.cells sc.names [])) fp
  have Be := he pz sg z3 (upd G2 D (.lst [])) z3.heap.objs.size (cellsFrom (z3.heap.objs.size + 1) sc.names (cloFrom X.env.cells sc.names [])) fp K3 fun b hb => (f3 b hb).1
  have goal : codeAny (model X.prog X.w) X.A (.compStart (.ListComp el [⟨ta, ia, fs, 0⟩] sc ps) 0 (.ref it) (.ref D) (compEnvC sc (cellsFrom (z3.heap.objs.size + 1) sc.names (cloFrom X.env.cells sc.names [])) z3.heap.objs.size X.env))
      (compPost (model X.prog X.w) X.A X.xe none (EP X pz sg Qq) (.ref D) z3.heap.objs.size) { z3 with heap := pushCells (z3.heap.push { cls := .type "dict", data := .dict #[] }) sc.names } := by
    obtain ⟨ce, hce⟩ : ∃ ce, ce = compEnvC sc (cellsFrom (z3.heap.objs.size + 1) sc.names (cloFrom X.env.cells sc.names [])) z3.heap.objs.size X.env := ⟨_, rfl⟩
    rw [← hce] at K4 Bg Bt Be ⊢
    have lc : ce.locals = z3.heap.objs.size := by rw [hce]; rfl
    obtain ⟨G3, hG3⟩ : ∃ G3, G3 = upd G2 D (.lst []) := ⟨_, rfl⟩
    rw [← hG3] at K3 K4 Bg Bt Be w0 f3
    have nf3 : ∀ b ∈ fp, G3 b = none := fun b hb => (f3 b hb).1.1
    obtain ⟨z4, hz4⟩ : ∃ z4 : Shared, z4 = { z3 with heap := pushCells (z3.heap.push { cls := .type "dict", data := .dict #[] }) sc.names } := ⟨_, rfl⟩
    rw [← hz4] at K4 ⊢
    have t4 : tn 0 z4.heap := T.keep _ _ _ t2 fun b _ o e => by
      rw [hz4]
      exact pushCells_keeps _ _ _ _ (Heap.get?_push_of_some _ (keep3 b o e))
    have fpk : ∀ {sg' : L2.St} {G' : Hp} {z' : Shared}, Inv (X.blk z3 G3 sc ce fp) [] sg' G' z' → (∀ b ∈ fp, G' b = none) → ∀ b ∈ fp, FpOk (X.blk z3 G3 sc ce fp) [] G' b := fun Kk hn b hb =>
      ⟨hn b hb, (Kk.ok.exf b hb).1, Kk.ok.exfs b hb, .inl hb, fun x c e => (Kk.ok.exf b hb).2 x c e, fun p hp => by simp at hp⟩
    have loop : codeAny (model X.prog X.w) X.A (.compLoop (.ListComp el [⟨ta, ia, fs, 0⟩] sc ps) 0 (.ref it) (.ref D) ce) (compPost (model X.prog X.w) X.A X.xe none (EP X pz sg Qq) (.ref D) z3.heap.objs.size) z4 := by
      refine compLoop_any (fun n z => ∃ i G, Inv (X.blk z3 G3 sc ce fp) [] (wipe sg (own.map (·.2))) G z ∧ tn i z.heap ∧ (∀ b ∈ fp, G b = none) ∧ W i n G) ?_ m0 ⟨0, G3, K4, t4, nf3, w0⟩
      rintro n z5 ⟨i, G5, K5, t5, n5, w5⟩
      rcases turn i n G5 w5 with ⟨halt, qq⟩ | ⟨go, Nx, hNx, step⟩
      · refine thnF (T.done (X.blk z3 G3 sc ce fp) rfl rfl rfl hc i [] z5 _ G5 (fun _ _ => False) K5 (fpk K5 n5) t5 halt) fun r z6 ⟨hr, K6⟩ => ?_
        subst hr
        have K7 : Inv X pz sg G5 z6 := K3.call' (ch := fp) K6.os K6.base K6.hok K6.bare fun b hb => ⟨(f3 b hb).1.2.2.2.1, (f3 b hb).1.2.1, (f3 b hb).1.2.2.2.2.1, (f3 b hb).1.2.2.2.2.2⟩
        have nC : G5 z3.heap.objs.size = none := lc ▸ (show G5 ce.locals = none from K6.free)
        obtain ⟨m, hm, _⟩ := K6.loc
        have ff := K3.fpOk (Nat.le_refl _) nC
        refine ⟨m, lc ▸ (show z6.heap.Ns ce.locals m from hm), fun h'' sb => ?_⟩
        obtain ⟨a0, a1, _, a3, a4, a5⟩ := ff
        exact ⟨.ref D, G5, K7.turned (t' := z6.toks) (fun b o hb e => (sb.2 b hb).trans e) a0 a1 a3 a4 a5, rfl, qq⟩
      · refine thnF (T.item (X.blk z3 G3 sc ce fp) rfl rfl rfl hc i [] z5 _ G5 (fun _ _ => False) K5 (fpk K5 n5) t5 go) fun r z6 ⟨u, hr, h6⟩ => ?_
        subst hr
        refine thnF h6 fun _ z7 ⟨x, G7, K7, r7, y7, t7, n7⟩ => ?_
        refine thnF (Bg.run _ z7 _ G7 x u _ (K7.pinned (fpk K7 n7) (T.obj _ _ t7)) r7 (step x G7 y7)) fun _ z8 ⟨sg8, G8, K8, w8, q8⟩ => ?_
        refine thnF (Bt.run _ z8 sg8 G8 _ K8 q8) fun b z9 ⟨G9, K9, q9⟩ => ?_
        have fin : ∀ {z' : Shared} {G' : Hp}, Inv (X.blk z3 G3 sc ce fp) ([] ++ pinsAt fp z7.heap) sg8 G' z' → Nx G' → ∃ m, m < n ∧ ∃ i G, Inv (X.blk z3 G3 sc ce fp) [] (wipe sg (own.map (·.2))) G z' ∧ tn i z'.heap ∧ (∀ b ∈ fp, G b = none) ∧ W i m G := fun {z' G'} Kk nx => by
          obtain ⟨m', lt, w'⟩ := hNx G' nx
          have pin : ∀ b ∈ fp, ∀ o, z7.heap.get? b = some o → z'.heap.get? b = some o ∧ G' b = none := fun b hb o e =>
            let y := Kk.pin (b, o) (List.mem_append_right _ (List.mem_append_right _ (mem_pinsAt hb e)))
            ⟨y.1, y.2.1⟩
          refine ⟨m', lt, i + 1, G', (Kk.unpinned (pins := [])).weak (by rw [← w8, wipe_length]) (fun j v e => by rw [← w8] at e; exact (wipe_some e).1), T.keep _ _ _ t7 fun b hb o e => (pin b hb o e).1, fun b hb => ?_, w'⟩
          obtain ⟨o, e, _⟩ := T.obj _ _ t7 b hb
          exact (pin b hb o e).2
        cases b with
        | false =>
          simp only [Bool.false_eq_true, if_false] at q9 ⊢; exact fin K9 q9
        | true =>
          simp only [if_true] at q9 ⊢
          refine thnF (Be.run _ z9 sg8 G9 _ K9 q9) fun v z10 ⟨y, G10, K10, r10, acc, eD, room, nx⟩ => ?_
          exact app_ok (X := X.blk z3 G3 sc ce fp) K10 eD room r10 fun z11 K11 => fin K11 nx
    exact codeAny_compStart_list loop (T.self X.A 0 _ _ _ t4 loop)
  exact hz3 ▸ goal
end
end Cc

/-! What stands where lambdas were made: the code's table grows, all else stays. -/
namespace Cc
open PySem PySem.Spec PyProof.Rows L2
open LamX
theorem tabs_but {T : List (Addr × Str)} {H H' : Hp} {s : Addr} (t : Tabs T H) (b : But s H H') (hs : ∃ xs, H s = some (.lst xs)) : Tabs T H' := fun p hp => by
  obtain ⟨xs, hx⟩ := hs
  obtain ⟨ps, h1, h2, h3⟩ := t p hp
  refine ⟨ps, b _ _ (ne_of h1 hx fun z => nomatch z) h1, h2, fun pos cv hc => ?_⟩
  obtain ⟨c0, e1, e2⟩ := h3 pos cv hc
  exact ⟨c0, e1, b _ _ (ne_of e2 hx fun z => by unfold CodeO at z; cases z) e2⟩
theorem drawAt_extN {K : PySem.W.Frag} {H H' : Hp} {s : Addr} (h : DrawAt K H s) (e : ExtN H H') : DrawAt K H' s := by
  obtain ⟨a, ns, p, x, y, e1, q, l, z⟩ := h
  exact ⟨a, ns, p, x, y, e _ _ e1 (fun _ z => by cases z), q.keep fun b o u w => e _ _ w fun _ z => (by cases z), l, z⟩
theorem steps_extN {H H' : Hp} {vs : List V} {ss : List Stp} (h : Steps H vs ss) (e : ExtN H H') : Steps H' vs ss := h.mono fun t xs w => e _ _ w fun _ z => by cases z
theorem planAt_extN {C : Addr} {H H' : Hp} {p : Addr} {ss : List Stp} (h : PlanAt C H p ss) (e : ExtN H H') : PlanAt C H' p ss := by
  obtain ⟨dx, tp, ws, a, ⟨o, d0, b⟩, d⟩ := h
  exact ⟨dx, tp, ws, e _ _ a (fun _ z => by cases z), ⟨o, d0, e _ _ b (fun _ z => by cases z)⟩, steps_extN d e⟩
theorem extN_same {H H' : Hp} (s : Same H H') : ExtN H H' := fun b o e _ => s b o e
theorem extN_lst {H H' : Hp} {l : Addr} {xs : List V} (e : ExtN H H') (h : H l = some (.lst xs)) : H' l = some (.lst xs) := e _ _ h fun _ z => by cases z
theorem extN_none {H H' : Hp} {l : Addr} {xs : List V} (h : H l = none) (h' : H' l = some (.lst xs)) : H ≠ H' := fun z => by rw [z, h'] at h; cases h
/-- an append to a list: what else stands -/
theorem lamAt_but {H H' : Hp} {l f : Addr} {q : Str} {params : Arguments} {body : Expr} {scope : Scope} {cl : List (Str × Addr)} {ds : List V} (h : LamAt H f q params body scope cl ds) (b : But l H H') (hl : ∃ xs, H l = some (.lst xs)) : LamAt H' f q params body scope cl ds := by
  obtain ⟨xs, hx⟩ := hl
  obtain ⟨c', dv, h1, h2, h3⟩ := h
  refine ⟨c', dv, b _ _ (ne_of h1 hx fun z => by unfold LamO at z; cases z) h1, b _ _ (ne_of h2 hx fun z => by unfold CodeO at z; cases z) h2, h3.imp id fun ⟨T, v, z1, z2, z3⟩ => ⟨T, v, z1, z2, b _ _ (ne_of z3 hx fun z => nomatch z) z3⟩⟩
theorem but_app {H : Hp} {l : Addr} {o : HO} : But l H (upd H l o) := but_upd
/-- a refusal as data -/
abbrev noNum : PyData := .tuple [.str "InvalidNumber"]
def NoAt (H : Hp) (v : V) : Prop := ∃ t, v = .ref t ∧ H t = some (.tup [.str "InvalidNumber"])
theorem dp_no {K : PySem.W.Frag} {H : Hp} : ∀ {vs : List V}, (∀ v ∈ vs, NoAt H v) → DpAll K H vs (List.replicate vs.length noNum)
  | [], _ => .nil
  | v :: vs, h => by
    obtain ⟨t, rfl, ht⟩ := h v List.mem_cons_self
    exact .cons (.tup (SqT.of ht) (.cons (.str _) .nil)) (dp_no fun u hu => h u (List.mem_cons_of_mem _ hu))
theorem shaped_no : SeqAt.shaped (.list (List.replicate 5 noNum)) = true := by decide +kernel
theorem eqv_no : PyData.eqv (.list (List.replicate 5 noNum)) (.list (List.replicate 5 noNum)) = true := by decide +kernel
/-- the exceptions of the class at CN alone -/
def eN (CN : Addr) (E : XK) : XK := fun cls d H => cls = .ref CN ∧ E cls d H
end Cc

/-! The law's outcome of a call, three errors caught. -/
namespace Cc
open PySem PySem.Spec PyProof.Rows L2
open LamX
abbrev sOutcome : Stmt := top 41
abbrev oN : List Str := ["_law_work", "_law_e"]
/-- a lambda at f of this def, and what its call does -/
def CanAct (X : Cx) (k : Nat) (σ : L2.St) (f : Addr) (E : XK) (H : Hp) (Q : VK) : Prop :=
  ∃ (params : Arguments) (body : Expr) (scope : Scope) (ds : List V) (tb : TE), LamAt H f (X.env.qual ++ "<lambda>") params body scope (cloFrom X.env.cells scope.names []) ds ∧ LamN X.N X.env.scope scope ∧ LamBind params body scope ds ∧
    (ds = [] → ∀ (q : Str) (cl : List (Str × Addr)) (pm cv ctv : Value), bindArgs (laFn q params body scope cl pm .none cv ctv) ⟨[], []⟩ = pure []) ∧
    (∀ (A : Around) (outer : List Env) (s : Shared) (H : Hp) (c' : Addr), Room k (A.deeper (lamEnv X scope s.heap.objs.size f c')) → PE (lamCx X A outer s H E scope f c') body tb) ∧ tb σ H Q
theorem pe_can {X : Cx} {pins : List (Addr × Obj)} {σ : L2.St} {H : Hp} {s : Shared} {CXg : CXT} {Eg : XK} {Ng : List Str} {qg : Str} {sg : Scope} {g f : Addr} {cdg : Value} {k i : Nat} {a : Str} {pn : List (Addr × Obj)} {xe : Value → Shared → Prop} {W : WX} {E : XK} {p1 p2 : Pos}
    (I : Inv X pins σ H s) (tk : Takes ((cxOf CXg X.prog X.w X.K X.mg X.base Ng qg sg g cdg X.A X.stack s H Eg).tr pn xe) W) (hW : ∀ cls d σ' H', E cls d H' → W cls d σ' H') (hr : Room (k + 1) (X.A.deeper (envOfC qg sg s.heap.objs.size g cdg)))
    (hN : Ng[i]? = some a) (hv : Vis sg a) (hd : (a == ("__debug__" : Str)) = false := by decide) (hcd : (a == ("__classdict__" : Str)) = false := by decide) : PE ((cxOf CXg X.prog X.w X.K X.mg X.base Ng qg sg g cdg X.A X.stack s H Eg).tr pn xe) (.Call (.Name a p1) [] [] p2) (fun σZ HZ Q => σZ[i]? = some (some (.ref f)) ∧ CanAct X k σ f E HZ Q) := by
  refine ⟨fun pinsZ sZ σZ HZ Q IZ ⟨hs, params, body, scope, ds, tb, h1, h2, h3, h4, h5, h6⟩ => ?_⟩
  exact (la_act (i := i) I h2 h3 h4 tk hW hr h5 hN hv hd hcd).run pinsZ sZ σZ HZ Q IZ ⟨hs, h1, h6⟩
theorem takes_len {X : Cx} {W : WX} (t : Takes X W) : Takes X (fun c d σ H => σ.length = X.N.length → W c d σ H) := fun u s' ⟨a, B, sI, pins, σ, H, cls, d, e, I, nb, up, sky, na, os, ag, w⟩ =>
  t u s' ⟨a, B, sI, pins, σ, H, cls, d, e, I, nb, up, sky, na, os, ag, w I.len⟩
theorem scOutcome : FnScope oN ["_law_work"] (defScope sOutcome) := ⟨rfl, rfl, rfl, by decide +kernel, rfl, by decide +kernel, by decide +kernel⟩
/-- the three classes: none is among an earlier one -/
structure Kin3 (K : PySem.W.Frag) (C1 C2 C3 : Addr) : Prop where
  a1 : PySem.W.exmOne K (.ref C1) (.ref C1) = some true
  b1 : PySem.W.exmOne K (.ref C2) (.ref C1) = some false
  b2 : PySem.W.exmOne K (.ref C2) (.ref C2) = some true
  c1 : PySem.W.exmOne K (.ref C3) (.ref C1) = some false
  c2 : PySem.W.exmOne K (.ref C3) (.ref C2) = some false
  c3 : PySem.W.exmOne K (.ref C3) (.ref C3) = some true
/-- a class of errors that tell an index -/
structure XIdx (K : PySem.W.Frag) (C : Addr) : Prop where
  xf : XfC K C
  no : PySem.W.findIn K (.ref C) "index" = some none
def toldN (wd : Str) (Q : VK) (H' : Hp) : Prop := ∀ p, H' p = none → Q (.ref p) (upd H' p (.tup [.str wd]))
def toldI (wd : Str) (d : Option Addr) (Q : VK) (H' : Hp) : Prop := ∃ (dd : Addr) (fs : List (Str × V)) (i : Int), d = some dd ∧ H' dd = some (.xd fs) ∧ fs.lookup ("index" : Str) = some (V.int i) ∧ ∀ p, H' p = none → Q (.ref p) (upd H' p (.tup [.str wd, .int i]))
def tsN (wd : Str) : Addr → Value → Option Addr → TS := fun _ _ _ => tRet (tTup (tCons (tC (.str wd)) tNil))
def tsI (C : Addr) (wd : Str) : Addr → Value → Option Addr → TS := fun a cls d => tRet (tTup (tCons (tC (.str wd)) (tCons (tXf a cls d C "index" (tVar 1)) tNil)))
theorem go_N {D : Ends} {wd : Str} {a : Addr} {cls : Value} {d : Option Addr} {σ : L2.St} {H : Hp} (h : toldN wd D.rt H) : clRun D none (tsN wd) a cls d σ H := ⟨by show 1 ≤ sizeLine; decide, h⟩
theorem go_I {D : Ends} {C : Addr} {wd : Str} {a : Addr} {d : Option Addr} {x y : Option V} {H : Hp} (h : toldI wd d D.rt H) : clRun D (some 1) (tsI C wd) a (.ref C) d [x, y] H := by
  obtain ⟨dd, fs, i, ed, ea, el, k⟩ := h
  exact ⟨_, rfl, rfl, rfl, dd, fs, .int i, ed, ea, el, by show 2 ≤ sizeLine; decide, fun p hp => k p hp⟩
def OutU (C1 C2 C3 : Addr) (Q : VK) : XK := fun cls d H' => (cls = .ref C1 ∧ toldN "InvalidNumber" Q H') ∨ (cls = .ref C2 ∧ toldI "InvalidPlan" d Q H') ∨ (cls = .ref C3 ∧ toldI "TooFewChairs" d Q H')
structure Nam3 (mg : Str → Option Value) (C1 C2 C3 : Addr) : Prop where
  n1 : mg "InvalidNumber" = some (.ref C1)
  n2 : mg "InvalidPlan" = some (.ref C2)
  n3 : mg "TooFewChairs" = some (.ref C3)
abbrev Xt3 (K : PySem.W.Frag) (C2 C3 : Addr) : Prop := XIdx K C2 ∧ XIdx K C3
abbrev cls3 (C1 C2 C3 : Addr) : List (Value × Option Nat × (Addr → Value → Option Addr → TS)) := [(.ref C1, none, tsN "InvalidNumber"), (.ref C2, some 1, tsI C2 "InvalidPlan"), (.ref C3, some 1, tsI C3 "TooFewChairs")]
theorem outU_cls {K : PySem.W.Frag} {C1 C2 C3 : Addr} {Wo : WX} {D : Ends} {cls : Value} {d : Option Addr} {σ : L2.St} {H : Hp} (KI : Kin3 K C1 C2 C3) (l2 : σ.length = 2) (h : OutU C1 C2 C3 D.rt cls d H) : wCls K Wo D (cls3 C1 C2 C3) cls d σ H := by
  obtain ⟨x, y, rfl⟩ : ∃ x y, σ = [x, y] := by
    match σ, l2 with
    | [x, y], _ => exact ⟨x, y, rfl⟩
  rcases h with ⟨rfl, h⟩ | ⟨rfl, h⟩ | ⟨rfl, h⟩
  · exact ⟨true, KI.a1, fun _ _ _ => go_N h, fun z => nomatch z⟩
  · exact ⟨false, KI.b1, (fun z => nomatch z), fun _ => ⟨true, KI.b2, fun _ _ _ => go_I h, fun z => nomatch z⟩⟩
  · exact ⟨false, KI.c1, (fun z => nomatch z), fun _ => ⟨false, KI.c2, (fun z => nomatch z), fun _ => ⟨true, KI.c3, fun _ _ _ => go_I h, fun z => nomatch z⟩⟩⟩
/-- the outcome of a lambda at f -/
theorem run_outU {X : Cx} {pins : List (Addr × Obj)} {σ : L2.St} {H : Hp} {s : Shared} {fO C1 C2 C3 f : Addr} {fdO : FuncData} {k : Nat} {us : List Value} {Q : VK} (I : Inv X pins σ H s) (F : Fun X.K "_law_outcome" "_law_outcome" sOutcome fO fdO) (hb : Binds X.K fdO ["_law_work"] [])
    (NM : Nam3 X.mg C1 C2 C3) (KI : Kin3 X.K C1 C2 C3) (XI : Xt3 X.K C2 C3) (hr : Room (k + 2) X.A) (r : Vals [.ref f] us) (ht : CanAct X k σ f (OutU C1 C2 C3 Q) H Q) : codeAny (model X.prog X.w) X.A (.call (.ref fO) ⟨us, []⟩) (CR CX0 X.stack X.prog X.w H s Q E0) s := by
  obtain ⟨oc, od, kV, doc, pm, an, cdv, ct, osl, rfl, lk, hcdO⟩ := F.ex
  have bt := hb s us I.kIn (by rw [List.append_nil, ← r.length]; rfl)
  rw [List.append_nil] at bt
  refine run_ofS (CX := CX0) (N := oN) (ps := ["_law_work"]) lk hcdO scOutcome hr I.env0 bt r rfl fun hr' => ?_
  suffices h : ∃ t, PSs (cxOf CX0 X.prog X.w X.K X.mg X.base oN "_law_outcome" (defScope sOutcome) fO cdv X.A X.stack s H E0).nox (defBody sOutcome) t ∧ t { nx := fun _ H' => Q .non H', rt := Q } (L2.start oN [.ref f]) H from let ⟨t, h1, h2⟩ := h; ⟨t, h1.nox, h2⟩
  refine ⟨_, pss_one (ps_try_cls (X := (cxOf CX0 X.prog X.w X.K X.mg X.base oN "_law_outcome" (defScope sOutcome) fO cdv X.A X.stack s H E0).nox) (l := cls3 C1 C2 C3)
    (tb := fun W D σ' H' => ∃ Ech : XK, (∀ cls d σ' H', σ'.length = 2 → Ech cls d H' → W cls d σ' H') ∧ σ'[0]? = some (some (.ref f)) ∧ CanAct X k σ f Ech H' D.rt)
    rfl rfl L2.takes0 (fun W pn xe tk _ => ?_) ?_), ?_⟩
  · refine ⟨fun pz z σz Hz D Iz ⟨Ech, hW, h1, h2⟩ => ?_⟩
    exact (pss_one (ps_ret (pe_can (CXg := CX0) (Eg := E0) (Ng := oN) (i := 0) (E := Ech) I (takes_len tk) (fun cls d σ' H' e hl => hW cls d σ' H' hl e) hr' rfl (.inl rfl)))).run pz z σz Hz D Iz ⟨h1, h2⟩
  · exact .plain ⟨rfl, by decide, .inl NM.n1⟩ (fun a oe cls d pn _ _ => pss_one (ps_ret (pe_tup (pa_cons pe_str pa_nil)))) (.named ⟨rfl, by decide, .inl NM.n2⟩ scOutcome.nd rfl rfl (fun a oe cls d pn hz hf => pss_one (ps_ret (pe_tup (pa_cons pe_str (pa_cons (pe_xf XI.1.xf XI.1.no hz hf (pv 1)) pa_nil)))))
      (.named ⟨rfl, by decide, .inl NM.n3⟩ scOutcome.nd rfl rfl (fun a oe cls d pn hz hf => pss_one (ps_ret (pe_tup (pa_cons pe_str (pa_cons (pe_xf XI.2.xf XI.2.no hz hf (pv 1)) pa_nil))))) .nil))
  · exact ⟨OutU C1 C2 C3 Q, fun cls d σ' H' h2 h => outU_cls KI h2 h, rfl, ht⟩
section
variable {X : Cx} {fO C1 C2 C3 : Addr} {fdO : FuncData} {k : Nat} {p pos : Pos}
/-- _law_outcome(e), e a lambda of this def -/
theorem pe_outU {tl : TE} {e : Expr} (F : Fun X.K "_law_outcome" "_law_outcome" sOutcome fO fdO) (at_ : X.mg "_law_outcome" = some (.ref fO)) (kp : PySem.W.keepIn X.K (.ref fO) = true) (hb : Binds X.K fdO ["_law_work"] [])
    (NM : Nam3 X.mg C1 C2 C3) (KI : Kin3 X.K C1 C2 C3) (XI : Xt3 X.K C2 C3) (hr : Room (k + 2) X.A) (hg : Gl X "_law_outcome") (hl : PE X e tl)
    (he : starEach [e] X.env = (false, eval e X.env) :: starEach [] X.env := by rfl) (hpl : (backTo pos (starEach [] X.env)).any (·.1) = false := by rfl) :
    PE X (.Call (.Name "_law_outcome" p) [e] [] pos) (fun σ H Q => tCons tl tNil σ H fun vs H1 => ∃ f, vs = [.ref f] ∧ CanAct X k σ f (OutU C1 C2 C3 Q) H1 Q) := by
  refine ⟨fun pins s σ H Q I ht0 => ?_⟩
  refine wpAny_Call_Name_kw (ld_glob I hg at_ ?_ (by decide))
  refine PySem.W.callWith_K (h₀ := X.base) I.ok.mod.kin kp (thn ((pa_cons hl pa_nil he).run pos pins s σ H _ I ht0) fun us z1 ⟨vs, H1, I1, r, f, ev, ht⟩ => ⟨I1.kIn, ?_⟩) he hpl
  subst ev
  refine wpAny_call (codeAny_mono (run_outU I1 F hb NM KI XI hr r ht) fun z s2 q => ?_)
  cases z with
  | error e => exact (show False from q).elim
  | ok fl =>
    cases fl with
    | ret u => exact I1.after q
    | next => exact q.elim
    | brk => exact q.elim
    | cont => exact q.elim
/-- .. within a comprehension, f a lambda of the def around it -/
theorem pe_outUI {pins : List (Addr × Obj)} {σ : L2.St} {H : Hp} {s : Shared} {sc : Scope} {ce : Env} {fp : List Addr} {iw : Nat} {wk : Str} {pw : Pos} (I : Inv X pins σ H s) (hfp : ∀ b ∈ fp, FpOk X pins H b)
    (F : Fun X.K "_law_outcome" "_law_outcome" sOutcome fO fdO) (at_ : X.mg "_law_outcome" = some (.ref fO)) (kp : PySem.W.keepIn X.K (.ref fO) = true) (hb : Binds X.K fdO ["_law_work"] []) (NM : Nam3 X.mg C1 C2 C3) (KI : Kin3 X.K C1 C2 C3) (XI : Xt3 X.K C2 C3) (hr : Room (k + 2) X.A)
    (hg : Gl (X.blk s H sc ce fp) "_law_outcome") (hw : X.N[iw]? = some wk) (hvw : Vis ce.scope wk) (hd : (wk == ("__debug__" : Str)) = false := by decide) (hcd : (wk == ("__classdict__" : Str)) = false := by decide)
    (he : starEach [Expr.Name wk pw] ce = (false, eval (.Name wk pw) ce) :: starEach [] ce := by rfl) (hpl : (backTo pos (starEach [] ce)).any (·.1) = false := by rfl) :
    PE (X.blk s H sc ce fp) (.Call (.Name "_law_outcome" p) [.Name wk pw] [] pos) (fun σB H' Q => ∃ f, σB[iw]? = some (some (.ref f)) ∧ CanAct X k σ f (OutU C1 C2 C3 Q) H' Q) := by
  refine ⟨fun pinsB s' σB H' Q IB ⟨f, hs, ht⟩ => ?_⟩
  refine wpAny_Call_Name_kw (ld_glob IB hg at_ ?_ (by decide))
  have ha : PA (X.blk s H sc ce fp) [Expr.Name wk pw] (tCons (tVar iw) tNil) := pa_cons (pe_var hw hvw hd hcd) pa_nil
  refine PySem.W.callWith_K (h₀ := X.base) IB.ok.mod.kin kp (thn (ha.run pos pinsB s' σB H' (fun vs H1 => vs = [.ref f] ∧ H1 = H') IB ⟨_, hs, rfl, rfl⟩) fun us z1 ⟨vs, H1, I1, r, ev, eH⟩ => ⟨I1.kIn, ?_⟩) he hpl
  subst ev
  subst eH
  have IX : Inv X pins σ H1 z1 := I.call' (ch := fp) I1.os I1.base I1.hok I1.bare fun b hb => ⟨(hfp b hb).2.2.2.1, (hfp b hb).2.1, (hfp b hb).2.2.2.2.1, (hfp b hb).2.2.2.2.2⟩
  have rc : codeAny (model X.prog X.w) X.A (.call (.ref fO) ⟨us, []⟩) (CR CX0 X.stack X.prog X.w H1 z1 Q E0) z1 := run_outU IX F hb NM KI XI hr r ht
  refine wpAny_call (codeAny_mono rc fun z s2 q => ?_)
  cases z with
  | error e => exact (show False from q).elim
  | ok fl =>
    cases fl with
    | ret u => exact I1.after q
    | next => exact q.elim
    | brk => exact q.elim
    | cont => exact q.elim
end
end Cc

/-! name = [..] on one line; the element is judged where the slots around are known. -/
namespace Cc
open PySem PySem.Spec PyProof.Rows L2
open LamX
section
variable {X : Cx}
theorem lcI_core {pz : List (Addr × Obj)} {z0 : Shared} {sg : L2.St} {G0 : Hp} {Qq : VK} {el ta ia : Expr} {fs : List Expr} {sc : Scope} {own : List (Str × Nat)} {ps pos' : Pos} {wi : TI} {g : TG} {tt : TT} {te : L2.St → TE} {use : Option (Value → Sem Unit)} {Qf : Value → Shared → Prop}
    (hc : X.calm = true) (hN : X.N.Nodup) (K0 : Inv X pz sg G0 z0) (hi : PI X ta ia wi) (ok : BlkOk X.N X.env.scope sc own)
    (hg : ∀ (s : Shared) (H : Hp) (C : Addr) (cl : List (Str × Addr)) (fp : List Addr), PG (X.blk s H sc (compEnvC sc cl C X.env) fp) ta g)
    (ht : ∀ (s : Shared) (H : Hp) (C : Addr) (cl : List (Str × Addr)) (fp : List Addr), PTs (X.blk s H sc (compEnvC sc cl C X.env) fp) fs tt)
    (he : ∀ (pins : List (Addr × Obj)) (σ : L2.St) (s : Shared) (H : Hp) (C : Addr) (cl : List (Str × Addr)) (fp : List Addr), Inv X pins σ H s → (∀ b ∈ fp, FpOk X pins H b) → PE (X.blk s H sc (compEnvC sc cl C X.env) fp) el (te σ))
    (hs : ∀ x, foldedSetIterable ia X.env x = pure x) (h : tLc wi g tt (te sg) (own.map (·.2)) sg G0 Qq)
    (hRR : ∀ D C s' m H', Inv X pz sg H' s' → Qq (.ref D) H' → s'.heap.Ns C m → FpOk X pz H' C → compPost (model X.prog X.w) X.A X.xe use Qf (.ref D) C (.ok .next) s') :
    wpAny (model X.prog X.w) X.A (comprehension (.ListComp el [⟨ta, ia, fs, 0⟩] sc ps) sc X.env pos' (newList []) false (eval ia X.env) use) Qf X.xe z0 := by
  have frees : ∀ y ∈ sc.names, y.2 = .free → ∃ c, X.env.cells.lookup y.1 = some c := fun y hy e => K0.ok.has _ (ok.free y hy e)
  refine wpAny_comprehension_free (use := use) rfl hs (closure_ok frees) ok.kind (fun y hy e => (ok.uniq y hy).trans (congrArg some e)) (thn (hi.run pz z0 sg G0 _ K0 h) fun _ z1 h1 => thn h1 fun iv z2 h2 => ?_)
  obtain ⟨it, fp, tn, Jt, G2, rfl, K2, T, t2, f2, q⟩ := h2
  refine wpAny_newObj_type (newEnv_comp ?_) (by show 0 ≤ sizeLine; decide); obtain ⟨D, hD⟩ : ∃ D, D = z2.heap.objs.size := ⟨_, rfl⟩
  rw [← hD]
  have freeD : G2 D = none := K2.hok.fresh (Nat.le_of_eq hD.symm)
  obtain ⟨W, ⟨m0, w0⟩, turn⟩ := q D freeD
  obtain ⟨z3, hz3⟩ : ∃ z3 : Shared, z3 = { z2 with heap := z2.heap.push { cls := .type "list", data := .seq ([] : List Value).toArray } } := ⟨_, rfl⟩
  have p3 : z3.heap = z2.heap.push { cls := .type "list", data := .seq ([] : List Value).toArray } := by rw [hz3]
  have keep3 : ∀ b o, z2.heap.get? b = some o → z3.heap.get? b = some o := fun b o e => by
    rw [p3]
    exact Heap.get?_push_of_some (h := z2.heap) _ e
  have K3 : Inv X pz sg (upd G2 D (.lst [])) z3 := by
    rw [hz3]
    refine K2.laid (t' := z2.toks) (fun b o e => Heap.get?_push_of_some _ e) (Nat.le_of_eq hD.symm) ⟨Nat.zero_le _, [], 0, .nil, ?_⟩
    rw [hD]
    exact Heap.get?_push_size z2.heap rfl
  have old : ∀ b ∈ fp, b < z2.heap.objs.size := fun b hb => (T.obj _ _ t2 b hb).elim fun _ e => Heap.lt_size e.1
  have f3 : ∀ b ∈ fp, FpOk X pz (upd G2 D (.lst [])) b ∧ b < z3.heap.objs.size := fun b hb =>
    ⟨⟨by rw [upd_ne (by rw [hD]; exact Nat.ne_of_lt (old b hb))]; exact (f2 b hb).1, (f2 b hb).2⟩, by rw [p3, Heap.size_push]; exact Nat.lt_succ_of_lt (old b hb)⟩
  have K4 := block_start K3 ok hN f3
  have Bg := hg z3 (upd G2 D (.lst [])) z3.heap.objs.size (cellsFrom (z3.heap.objs.size + 1) sc.names (cloFrom X.env.cells sc.names [])) fp
  have Bt := ht z3 (upd G2 D (.lst [])) z3.heap.objs.size (cellsFrom (z3.heap.objs.size + 1) sc.names (cloFrom X.env.cells sc.names [])) fp
  have Be := he pz sg z3 (upd G2 D (.lst [])) z3.heap.objs.size (cellsFrom (z3.heap.objs.size + 1) sc.names (cloFrom X.env.cells sc.names [])) fp K3 fun b hb => (f3 b hb).1
  have goal : codeAny (model X.prog X.w) X.A (.compStart (.ListComp el [⟨ta, ia, fs, 0⟩] sc ps) 0 (.ref it) (.ref D) (compEnvC sc (cellsFrom (z3.heap.objs.size + 1) sc.names (cloFrom X.env.cells sc.names [])) z3.heap.objs.size X.env))
      (compPost (model X.prog X.w) X.A X.xe use Qf (.ref D) z3.heap.objs.size) { z3 with heap := pushCells (z3.heap.push { cls := .type "dict", data := .dict #[] }) sc.names } := by
    obtain ⟨ce, hce⟩ : ∃ ce, ce = compEnvC sc (cellsFrom (z3.heap.objs.size + 1) sc.names (cloFrom X.env.cells sc.names [])) z3.heap.objs.size X.env := ⟨_, rfl⟩
    rw [← hce] at K4 Bg Bt Be ⊢
    have lc : ce.locals = z3.heap.objs.size := by rw [hce]; rfl
    obtain ⟨G3, hG3⟩ : ∃ G3, G3 = upd G2 D (.lst []) := ⟨_, rfl⟩
    rw [← hG3] at K3 K4 Bg Bt Be w0 f3
    have nf3 : ∀ b ∈ fp, G3 b = none := fun b hb => (f3 b hb).1.1
    obtain ⟨z4, hz4⟩ : ∃ z4 : Shared, z4 = { z3 with heap := pushCells (z3.heap.push { cls := .type "dict", data := .dict #[] }) sc.names } := ⟨_, rfl⟩
    rw [← hz4] at K4 ⊢
    have t4 : tn 0 z4.heap := T.keep _ _ _ t2 fun b _ o e => by
      rw [hz4]
      exact pushCells_keeps _ _ _ _ (Heap.get?_push_of_some _ (keep3 b o e))
    have fpk : ∀ {sg' : L2.St} {G' : Hp} {z' : Shared}, Inv (X.blk z3 G3 sc ce fp) [] sg' G' z' → (∀ b ∈ fp, G' b = none) → ∀ b ∈ fp, FpOk (X.blk z3 G3 sc ce fp) [] G' b := fun Kk hn b hb =>
      ⟨hn b hb, (Kk.ok.exf b hb).1, Kk.ok.exfs b hb, .inl hb, fun x c e => (Kk.ok.exf b hb).2 x c e, fun p hp => by simp at hp⟩
    have loop : codeAny (model X.prog X.w) X.A (.compLoop (.ListComp el [⟨ta, ia, fs, 0⟩] sc ps) 0 (.ref it) (.ref D) ce) (compPost (model X.prog X.w) X.A X.xe use Qf (.ref D) z3.heap.objs.size) z4 := by
      refine compLoop_any (fun n z => ∃ i G, Inv (X.blk z3 G3 sc ce fp) [] (wipe sg (own.map (·.2))) G z ∧ tn i z.heap ∧ (∀ b ∈ fp, G b = none) ∧ W i n G) ?_ m0 ⟨0, G3, K4, t4, nf3, w0⟩
      rintro n z5 ⟨i, G5, K5, t5, n5, w5⟩
      rcases turn i n G5 w5 with ⟨halt, qq⟩ | ⟨go, Nx, hNx, step⟩
      · refine thnF (T.done (X.blk z3 G3 sc ce fp) rfl rfl rfl hc i [] z5 _ G5 (fun _ _ => False) K5 (fpk K5 n5) t5 halt) fun r z6 ⟨hr, K6⟩ => ?_
        subst hr
        have K7 : Inv X pz sg G5 z6 := K3.call' (ch := fp) K6.os K6.base K6.hok K6.bare fun b hb => ⟨(f3 b hb).1.2.2.2.1, (f3 b hb).1.2.1, (f3 b hb).1.2.2.2.2.1, (f3 b hb).1.2.2.2.2.2⟩
        have nC : G5 z3.heap.objs.size = none := lc ▸ (show G5 ce.locals = none from K6.free)
        obtain ⟨m, hm, _⟩ := K6.loc
        exact hRR D z3.heap.objs.size z6 m G5 K7 qq (lc ▸ (show z6.heap.Ns ce.locals m from hm)) (K3.fpOk (Nat.le_refl _) nC)
      · refine thnF (T.item (X.blk z3 G3 sc ce fp) rfl rfl rfl hc i [] z5 _ G5 (fun _ _ => False) K5 (fpk K5 n5) t5 go) fun r z6 ⟨u, hr, h6⟩ => ?_
        subst hr
        refine thnF h6 fun _ z7 ⟨x, G7, K7, r7, y7, t7, n7⟩ => ?_
        refine thnF (Bg.run _ z7 _ G7 x u _ (K7.pinned (fpk K7 n7) (T.obj _ _ t7)) r7 (step x G7 y7)) fun _ z8 ⟨sg8, G8, K8, w8, q8⟩ => ?_
        refine thnF (Bt.run _ z8 sg8 G8 _ K8 q8) fun b z9 ⟨G9, K9, q9⟩ => ?_
        have fin : ∀ {z' : Shared} {G' : Hp}, Inv (X.blk z3 G3 sc ce fp) ([] ++ pinsAt fp z7.heap) sg8 G' z' → Nx G' → ∃ m, m < n ∧ ∃ i G, Inv (X.blk z3 G3 sc ce fp) [] (wipe sg (own.map (·.2))) G z' ∧ tn i z'.heap ∧ (∀ b ∈ fp, G b = none) ∧ W i m G := fun {z' G'} Kk nx => by
          obtain ⟨m', lt, w'⟩ := hNx G' nx
          have pin : ∀ b ∈ fp, ∀ o, z7.heap.get? b = some o → z'.heap.get? b = some o ∧ G' b = none := fun b hb o e =>
            let y := Kk.pin (b, o) (List.mem_append_right _ (List.mem_append_right _ (mem_pinsAt hb e)))
            ⟨y.1, y.2.1⟩
          refine ⟨m', lt, i + 1, G', (Kk.unpinned (pins := [])).weak (by rw [← w8, wipe_length]) (fun j v e => by rw [← w8] at e; exact (wipe_some e).1), T.keep _ _ _ t7 fun b hb o e => (pin b hb o e).1, fun b hb => ?_, w'⟩
          obtain ⟨o, e, _⟩ := T.obj _ _ t7 b hb
          exact (pin b hb o e).2
        cases b with
        | false =>
          simp only [Bool.false_eq_true, if_false] at q9 ⊢; exact fin K9 q9
        | true =>
          simp only [if_true] at q9 ⊢
          refine thnF (Be.run _ z9 sg8 G9 _ K9 q9) fun v z10 ⟨y, G10, K10, r10, acc, eD, room, nx⟩ => ?_
          exact app_ok (X := X.blk z3 G3 sc ce fp) K10 eD room r10 fun z11 K11 => fin K11 nx
    exact codeAny_compStart_list loop (T.self X.A 0 _ _ _ t4 loop)
  exact hz3 ▸ goal
theorem ps_setLcI {i : Nat} {y : Str} {py : Pos} {el ta ia : Expr} {fs : List Expr} {sc : Scope} {own : List (Str × Nat)} {pos spos : Pos} {wi : TI} {g : TG} {tt : TT} {te : L2.St → TE} (hc : X.calm = true) (hN : X.N.Nodup) (hy : X.N[i]? = some y) (hyl : X.env.scope.names.lookup y = some .local)
    (hsw : swapsWith (.ListComp el [⟨ta, ia, fs, 0⟩] sc pos) (some (.Name y py)) spos.line X.env = pure true) (hi : PI X ta ia wi) (ok : BlkOk X.N X.env.scope sc own)
    (hg : ∀ (s : Shared) (H : Hp) (C : Addr) (cl : List (Str × Addr)) (fp : List Addr), PG (X.blk s H sc (compEnvC sc cl C X.env) fp) ta g)
    (ht : ∀ (s : Shared) (H : Hp) (C : Addr) (cl : List (Str × Addr)) (fp : List Addr), PTs (X.blk s H sc (compEnvC sc cl C X.env) fp) fs tt)
    (he : ∀ (pins : List (Addr × Obj)) (σ : L2.St) (s : Shared) (H : Hp) (C : Addr) (cl : List (Str × Addr)) (fp : List Addr), Inv X pins σ H s → (∀ b ∈ fp, FpOk X pins H b) → PE (X.blk s H sc (compEnvC sc cl C X.env) fp) el (te σ))
    (hs : ∀ x, foldedSetIterable ia X.env x = pure x := by intro _; rfl) :
    PS X (.Assign [.Name y py] (.ListComp el [⟨ta, ia, fs, 0⟩] sc pos) spos) (tAsg (fun σ H Q => tLc wi g tt (te σ) (own.map (·.2)) σ H Q) (gName i)) := by
  refine ⟨fun pz z0 sg G0 D K0 h => ?_⟩
  rw [exec_Assign_Name_used _ _ _ _ hsw]; refine wpAny_bind (wpAny_standAt (wpAny_bind ?_))
  show wpAny _ X.A (do let _ ← comprehension (.ListComp el [⟨ta, ia, fs, 0⟩] sc pos) sc X.env (firstIterPos [⟨ta, ia, fs, 0⟩] pos) (newList []) false (eval ia X.env) (some (assign (.Name y py) X.env))) _ _ z0
  have h : tLc wi g tt (te sg) (own.map (·.2)) sg G0 (fun x H1 => gName i x sg H1 D.nx) := h
  refine wpAny_bind (thn (lcI_core (Qf := fun _ s' => SP X pz D .next s') hc hN K0 hi ok hg ht he hs h fun L C s' m H' J q hn f => ?_) fun _ s' hq => wpAny_pure (wpAny_pure hq))
  show wpAny _ _ (assign (.Name y py) X.env (.ref L)) _ _ _; refine wpAny_assign_Name (store_ok2 (v := V.ref L) J hN hy (.inl hyl) rfl (fun z2 J2 ⟨a, sb, ha⟩ => ?_) (.inr hyl))
  obtain ⟨b0, b1, b2, b3, b4, b5⟩ := f
  have nCa : C ≠ a := ha.elim (fun z => z ▸ b1) fun z e => b4 y a z e.symm
  exact ⟨m, hn.sameBut sb nCa, fun h3 sb3 => ⟨_, H', J2.turned (t' := z2.toks) (fun b o hb e => (sb3.2 b hb).trans e) b0 b1 b3 b4 b5, q⟩⟩
end
end Cc

set_option maxHeartbeats 8000000
/-! Steps that are told to be wrong, and houses that are too small. -/
namespace Cc
open PySem PySem.Spec PyProof.Rows L2
open LamX
def spBadStep (K : PySem.W.Frag) : Sp := fun vs H Q _ => ∃ (st : Addr), vs = [.ref st] ∧ DrawAt K H st ∧ ∀ v H', DrawAt K H' st → But st H H' → ((∃ s, StepAt H' v s ∧ s.ok 1000000000000000000) ∨ BadAt H' v) → Q v H'
def spLIsStep : Sp := fun vs H Q _ => ∃ (v : V) (b : Bool), vs = [v] ∧ ((b = true ∧ ∃ s, StepAt H v s ∧ s.ok 1000000000000000000) ∨ (b = false ∧ BadAt H v)) ∧ ∀ H', Same H H' → Q (.bl b) H'
def spLFew : Sp := fun vs H Q _ => ∃ (c : Int) (l : Addr) (ws : List V) (ss : List Stp), vs = [.ref l, .int c] ∧ H l = some (.lst ws) ∧ Steps H ws ss ∧ ss.length ≤ 100 ∧ (∀ i H', FewAt c ss i → Same H H' → Q (.int (i : Nat)) H') ∧ ((∀ s ∈ ss, ¬ bigS c s) → ∀ H', Same H H' → Q .non H')
section
variable {P : Program} {w : World} {K : PySem.W.Frag} {mg : Str → Option Value} {base : Heap} {C CT CN CP TU pS gS : Addr} {mc : Value}
abbrev s__law_few : Stmt := top 46
abbrev n__law_few : List Str := ["_law_steps", "_law_chairs", "_law_k"]
theorem sc__law_few : FnScope n__law_few ["_law_steps", "_law_chairs"] (defScope s__law_few) := ⟨rfl, rfl, rfl, by decide +kernel, rfl, by decide +kernel, by decide +kernel⟩
theorem ok__law_few {f : Addr} {fd : FuncData} (F : Fun K "_law_few" "_law_few" s__law_few f fd) (B : Bt mg) : FnOk P w K mg base CX0 1 f fd ["_law_steps", "_law_chairs"] spLFew := by
  refine F.ok sc__law_few (fun vs H Q E h => ?_) (fun cdv A outer s H vs Q E hr h => ?_)
  · obtain ⟨c, l, ws, ss, rfl, _⟩ := h
    rfl
  · obtain ⟨c, l, ws, ss, rfl, hl, gs, ln, k1, k2⟩ := h
    refine ⟨_, pss_cons (ps_for PassesOwn.never rfl (pi_range1 rfl B.range (pa_cons (pe_callB call_len_seq (by rfl) B.len PySem.boot_len (pa_cons (pv 0) pa_nil)) pa_nil)) (pg_name (i := 2) sc__law_few.nd rfl (.inl rfl))
        (pss_one (ps_if (PW.pt (pw_and (pt_cmpR op_eq (pe_callB call_len (by rfl) B.len PySem.boot_len (pa_cons (pe_ix ix_list (pv 0) (pv 2) (fun _ _ => rfl)) pa_nil)) pe_int (nomark _)) (pw_and1 (pt_cmpR op_gt (pe_ix ix_tup (pe_ix ix_list (pv 0) (pv 2) (fun _ _ => rfl)) pe_int (fun _ _ => rfl)) (pv 1) (nomark _)))))
          (pss_one (ps_ret (pv 2))) pss_nil)))
      (pss_one (ps_ret pe_non)), ?_⟩
    have lw : ws.length = ss.length := gs.length
    refine ⟨_, rfl, l, _, rfl, .inl (SqL.of hl), _, rfl, by omega, by omega, ?_⟩
    refine for_range (lo := 0) (n := (((ws.length : Nat) : Int)).toNat) (fun i σ H' => ∃ (x : Option V), σ = [some (.ref l), some (.int c), x] ∧ Same H H' ∧ ∀ s ∈ ss.take i, ¬ bigS c s) ⟨none, rfl, Same.refl H, fun s hs => by simp at hs⟩ ?_ ?_
    · rintro i σ H1 hi ⟨x, rfl, s1, nb⟩
      have hil : i < ws.length := by omega
      obtain ⟨st, hst, t, ev, ht⟩ := gs.get (List.getElem?_eq_getElem hil)
      have ht1 := s1 _ _ ht
      have nb2 : ¬ bigS c st → ∀ s ∈ ss.take (i + 1), ¬ bigS c s := fun h s hs => by
        rw [take_more hst] at hs
        rcases List.mem_append.mp hs with m | m
        · exact nb s m
        · rw [List.mem_singleton.mp m]
          exact h
      have hx : atI ws (0 + (i : Int)) = some (V.ref t) := at_of (j := i) (by omega) (by rw [List.getElem?_eq_getElem hil, ev])
      refine ⟨_, rfl, _, rfl, l, _, _, _, rfl, rfl, SqL.of (s1 _ _ hl), hx, _, _, rfl, .inr ⟨_, SqT.of ht1, rfl⟩, rfl, ?_⟩
      cases st with
      | turn => exact ⟨_, rfl, iteF (iteF ⟨_, rfl, s1, nb2 id⟩)⟩
      | meet bb n =>
        refine ⟨_, rfl, iteT ⟨_, rfl, _, rfl, l, _, _, _, rfl, rfl, SqL.of (s1 _ _ hl), hx, t, _, _, _, rfl, rfl, SqT.of ht1, at_of (j := 1) rfl rfl, _, rfl, _, _, rfl, rfl, _, rfl, ?_⟩⟩
        by_cases hc : c < n
        · rw [decide_eq_true hc]
          refine iteT ⟨_, rfl, ?_⟩
          rw [Int.zero_add]
          exact k1 i _ ⟨nb, bb, n, hst, hc⟩ s1
        · rw [decide_eq_false hc]
          exact iteF ⟨_, rfl, s1, nb2 hc⟩
    · rintro σ H1 ⟨x, rfl, s1, nb⟩
      refine k2 (fun s hs => nb s ?_) H1 s1
      rw [List.take_of_length_le (by omega)]
      exact hs
abbrev s__law_is_step : Stmt := top 45
abbrev n__law_is_step : List Str := ["_law_step"]
theorem sc__law_is_step : FnScope n__law_is_step ["_law_step"] (defScope s__law_is_step) := ⟨rfl, rfl, rfl, by decide +kernel, rfl, by decide +kernel, by decide +kernel⟩
theorem ok__law_is_step {f : Addr} {fd : FuncData} (F : Fun K "_law_is_step" "_law_is_step" s__law_is_step f fd) (B : Bt mg) : FnOk P w K mg base CX0 1 f fd ["_law_step"] spLIsStep := by
  refine F.ok sc__law_is_step (fun vs H Q E h => ?_) (fun cdv A outer s H vs Q E hr h => ?_)
  · obtain ⟨v, b, rfl, _⟩ := h
    rfl
  · obtain ⟨v, b, rfl, h, k⟩ := h
    refine ⟨_, pss_cons (ps_if (pt_cmpR (op_eqD hr.units) (pv 0) (pe_tup (pa_cons pe_str pa_nil)) (nomark _))
        (pss_one (ps_ret pe_bl)) pss_nil)
      (pss_one (ps_ret (pe_and (pe_cmpR op_eq (pe_callB call_len (by rfl) B.len PySem.boot_len (pa_cons (pv 0) pa_nil)) pe_int (nomark _)) (pe_and (pe_cmpR op_in_seq (pe_ix ix_tup (pv 0) pe_int (fun _ _ => rfl)) (pe_tup (pa_cons pe_str (pa_cons pe_str pa_nil))) (by rfl)) (pe_one (pe_chain op_le op_le pe_int (pe_ix ix_tup (pv 0) pe_int (fun _ _ => rfl)) (pe_op op_pow pe_int pe_int))))))), ?_⟩
    have e18 : (10 : Int) ^ (18 : Int).toNat = 1000000000000000000 := by decide
    rcases h with ⟨rfl, s, ⟨t, rfl, ht⟩, ok⟩ | ⟨rfl, t, xs, rfl, ht, hb⟩
    · cases s with
      | turn =>
        refine ⟨_, rfl, by show 1 ≤ sizeLine; decide, fun t0 ht0 => ⟨.tuple [.str "turn"], .tuple [.str "turn"], .tup (SqT.of (same_upd ht0 _ _ ht)) (.cons (.str _) .nil), .tup (SqT.of upd_same) (.cons (.str _) .nil), by decide +kernel, by decide +kernel, _, rfl, ifT (by decide +kernel) ?_⟩⟩
        exact k _ (same_upd ht0)
      | meet bb n =>
        refine ⟨_, rfl, by show 1 ≤ sizeLine; decide, fun t0 ht0 => ⟨.tuple [.str (roomS bb), .int n], .tuple [.str "turn"], .tup (SqT.of (same_upd ht0 _ _ ht)) (.cons (.str _) (.cons (.int _) .nil)), .tup (SqT.of upd_same) (.cons (.str _) .nil), shaped_meet bb n, by decide +kernel, _, rfl, ifF (eqv_meet bb n) ?_⟩⟩
        have s1 := same_upd (o := .tup [.str "turn"]) ht0
        have ht1 := s1 _ _ ht
        refine ⟨_, rfl, _, _, rfl, .inr ⟨_, SqT.of ht1, rfl⟩, rfl, _, rfl, ifT rfl ?_⟩
        refine ⟨_, rfl, t, _, _, _, rfl, rfl, SqT.of ht1, at_of (j := 0) rfl rfl, by show 2 ≤ sizeLine; decide, fun p hp => ⟨p, _, rfl, .inr (SqT.of upd_same), rfl, rfl, _, rfl, ifT (by cases bb <;> decide +kernel) ?_⟩⟩
        have s2 := s1.trans (same_upd (o := .tup [.str "red", .str "blue"]) hp)
        refine ⟨_, rfl, t, _, _, _, rfl, rfl, SqT.of (s2 _ _ ht), at_of (j := 1) rfl rfl, _, _, rfl, rfl, _, rfl, ifT (decide_eq_true ok.1) ⟨_, _, rfl, rfl, ⟨by decide, by decide, by decide⟩, _, _, rfl, rfl, ?_⟩⟩
        show Q (V.bl (decide (n ≤ 1000000000000000000))) _
        rw [decide_eq_true ok.2]
        exact k _ s2
    · obtain ⟨ds, hd, h1, h2⟩ : ∃ ds, (∀ (K : PySem.W.Frag) (H : Hp), DpAll K H xs ds) ∧ SeqAt.shaped (.tuple ds) = true ∧ PyData.eqv (.tuple ds) (.tuple [.str "turn"]) = false := by
        by_cases n2 : xs.length = 2
        · have h2 : PyData.strOk "turn" = true := by decide +kernel
          have h3 : PyData.strOk "green" = true := by decide +kernel
          cases hb with
          | num b n h => exact ⟨[.str (roomS b), .int n], fun K H => .cons (.str _) (.cons (.int _) .nil), shaped_meet b n, eqv_meet b n⟩
          | green n => exact ⟨[.str "green", .int n], fun K H => .cons (.str _) (.cons (.int _) .nil), by simp [SeqAt.shaped, PyData.canLay0, PyData.canLayAll0, PyData.depth, PyData.depthAll, h3], by simp [PyData.eqv, PyData.eqvAll]⟩
          | turn n => exact ⟨[.str "turn", .int n], fun K H => .cons (.str _) (.cons (.int _) .nil), by simp [SeqAt.shaped, PyData.canLay0, PyData.canLayAll0, PyData.depth, PyData.depthAll, h2], by simp [PyData.eqv, PyData.eqvAll]⟩
          | one => cases n2
          | none => cases n2
          | three n m => cases n2
        · exact eqv_badx hb n2
      refine ⟨_, rfl, by show 1 ≤ sizeLine; decide, fun t0 ht0 => ⟨.tuple ds, .tuple [.str "turn"], .tup (SqT.of (same_upd ht0 _ _ ht)) (hd _ _), .tup (SqT.of upd_same) (.cons (.str _) .nil), h1, by decide +kernel, _, rfl, ifF h2 ?_⟩⟩
      have s1 := same_upd (o := .tup [.str "turn"]) ht0
      have ht1 := s1 _ _ ht
      refine ⟨_, rfl, _, _, rfl, .inr ⟨_, SqT.of ht1, rfl⟩, rfl, _, rfl, ?_⟩
      by_cases n2 : xs.length = 2
      · obtain ⟨r, n, e, hn⟩ : ∃ (r : Str) (n : Int), xs = [.str r, .int n] ∧ (inV (.str r) [.str "red", .str "blue"] = true → ¬ (0 ≤ n ∧ n ≤ 1000000000000000000)) := by
          cases hb with
          | num b n h => exact ⟨_, n, rfl, fun _ => h⟩
          | green n => exact ⟨_, n, rfl, fun z => absurd z (by decide +kernel)⟩
          | turn n => exact ⟨_, n, rfl, fun z => absurd z (by decide +kernel)⟩
          | one => cases n2
          | none => cases n2
          | three n m => cases n2
        subst e
        refine ifT rfl ⟨_, rfl, t, _, _, _, rfl, rfl, SqT.of ht1, at_of (j := 0) rfl rfl, by show 2 ≤ sizeLine; decide, fun p hp => ⟨p, _, rfl, .inr (SqT.of upd_same), rfl, rfl, _, rfl, ?_⟩⟩
        have s2 := s1.trans (same_upd (o := .tup [.str "red", .str "blue"]) hp)
        by_cases c : inV (.str r) [.str "red", .str "blue"] = true
        · refine ifT c ⟨_, rfl, t, _, _, _, rfl, rfl, SqT.of (s2 _ _ ht), at_of (j := 1) rfl rfl, _, _, rfl, rfl, _, rfl, ?_⟩
          by_cases n0 : 0 ≤ n
          · refine ifT (decide_eq_true n0) ⟨_, _, rfl, rfl, ⟨by decide, by decide, by decide⟩, _, _, rfl, rfl, ?_⟩
            show Q (V.bl (decide (n ≤ 1000000000000000000))) _
            rw [decide_eq_false (fun z => hn c ⟨n0, z⟩)]
            exact k _ s2
          · exact ifF (decide_eq_false n0) (k _ s2)
        · have c' : inV (.str r) [.str "red", .str "blue"] = false := by simpa using c
          exact ifF c' (k _ s2)
      · exact ifF (decide_eq_false fun z => n2 (by injection z; omega)) (k _ s1)
abbrev s__law_bad_step : Stmt := top 44
abbrev n__law_bad_step : List Str := ["_law_state", "_law_far", "_law_odd"]
theorem sc__law_bad_step : FnScope n__law_bad_step ["_law_state"] (defScope s__law_bad_step) := ⟨rfl, rfl, rfl, by decide +kernel, rfl, by decide +kernel, by decide +kernel⟩
theorem ok__law_bad_step {f f__law_drawn : Addr} {fd : FuncData} (F : Fun K "_law_bad_step" "_law_bad_step" s__law_bad_step f fd) (D__law_drawn : Dn P w K mg base 1 "_law_drawn" f__law_drawn (spDrawn K)) : FnOk P w K mg base CX0 2 f fd ["_law_state"] (spBadStep K) := by
  refine F.ok sc__law_bad_step (fun vs H Q E h => ?_) (fun cdv A outer s H vs Q E hr h => ?_)
  · obtain ⟨st, rfl, _⟩ := h
    rfl
  · obtain ⟨st, rfl, D0, k⟩ := h
    refine ⟨_, pss_cons (ps_set (i := 1) sc__law_bad_step.nd rfl (.inl rfl) (pe_op op_pow pe_int pe_int))
      (pss_cons (ps_set (i := 2) sc__law_bad_step.nd rfl (.inl rfl) (pe_lst (pa_cons (pe_tup (pa_cons pe_str (pa_cons (pe_op op_sub pe_int pe_int) pa_nil))) (pa_cons (pe_tup (pa_cons pe_str (pa_cons (pe_op op_add (pv 1) pe_int) pa_nil))) (pa_cons (pe_tup (pa_cons pe_str (pa_cons pe_int pa_nil))) (pa_cons (pe_tup (pa_cons pe_str (pa_cons pe_int pa_nil))) (pa_cons (pe_tup (pa_cons pe_str pa_nil)) (pa_cons (pe_tup pa_nil) (pa_cons (pe_tup (pa_cons pe_str (pa_cons pe_int (pa_cons pe_int pa_nil)))) (pa_cons (pe_tup (pa_cons pe_str (pa_cons (pv 1) pa_nil))) pa_nil))))))))))
      (pss_cons (ps_expr (pe_bm PySem.F.plainAttrs_list PySem.F.slot_list_append PySem.F.type_list_append mt_append (pv 2) (pa_cons (pe_tup (pa_cons pe_str pa_nil)) pa_nil)))
      (pss_one (ps_ret (pe_ix ix_list (pv 2) (pe_callR D__law_drawn.ok (hr.mono (by decide)) rfl D__law_drawn.at_ D__law_drawn.kp pass0 (pa_cons (pv 0) (pa_cons pe_int pa_nil))) (fun _ _ => rfl)))))), ?_⟩
    have e18 : (10 : Int) ^ (18 : Int).toNat = 1000000000000000000 := by decide
    refine ⟨_, _, rfl, rfl, ⟨by decide, by decide, by decide⟩, ?_⟩
    refine ⟨_, _, rfl, rfl, by show 2 ≤ sizeLine; decide, fun t0 h0 => ⟨_, rfl, _, _, rfl, rfl, by show 2 ≤ sizeLine; decide, fun t1 h1 => ⟨by show 2 ≤ sizeLine; decide, fun t2 h2 => ⟨by show 2 ≤ sizeLine; decide, fun t3 h3 => ⟨by show 1 ≤ sizeLine; decide, fun t4 h4 => ⟨by show 0 ≤ sizeLine; decide, fun t5 h5 => ⟨by show 3 ≤ sizeLine; decide, fun t6 h6 => ⟨_, rfl, by show 2 ≤ sizeLine; decide, fun t7 h7 => ⟨by show 8 ≤ sizeLine; decide, fun l hl => ?_⟩⟩⟩⟩⟩⟩⟩⟩⟩
    dsimp only at h1 h2 h3 h4 h5 h6 h7 hl ⊢
    have z1 := same_upd (o := .tup [.str "blue", .int ((10 : Int) ^ (18 : Int).toNat + 1)]) h1
    have z2 := same_upd (o := .tup [.str "green", .int 3]) h2
    have z3 := same_upd (o := .tup [.str "turn", .int 1]) h3
    have z4 := same_upd (o := .tup [.str "red"]) h4
    have z5 := same_upd (o := .tup []) h5
    have z6 := same_upd (o := .tup [.str "red", .int 1, .int 2]) h6
    have z7 := same_upd (o := .tup [.str "red", .int ((10 : Int) ^ (18 : Int).toNat)]) h7
    have z8 := same_upd (o := .lst [.ref t0, .ref t1, .ref t2, .ref t3, .ref t4, .ref t5, .ref t6, .ref t7]) hl
    have z0 := same_upd (o := .tup [.str "red", .int (0 - 1)]) h0
    have c6 := z7.trans z8
    have c5 := z6.trans c6
    have c4 := z5.trans c5
    have c3 := z4.trans c4
    have c2 := z3.trans c3
    have c1 := z2.trans c2
    have c0 := z1.trans c1
    have cc := z0.trans c0
    have nlH : ∀ b o, H b = some o → b ≠ l := fun b o e => ne_of_none ((z0.trans (z1.trans (z2.trans (z3.trans (z4.trans (z5.trans (z6.trans z7))))))) _ _ e) hl
    have e0 := c0 _ _ upd_same
    have e1 := c1 _ _ upd_same
    have e2 := c2 _ _ upd_same
    have e3 := c3 _ _ upd_same
    have e4 := c4 _ _ upd_same
    have e5 := c5 _ _ upd_same
    have e6 := c6 _ _ upd_same
    have e7 := z8 _ _ upd_same
    have el := upd_same (H := upd (upd (upd (upd (upd (upd (upd (upd H t0 (.tup [.str "red", .int (0 - 1)])) t1 (.tup [.str "blue", .int ((10 : Int) ^ (18 : Int).toNat + 1)])) t2 (.tup [.str "green", .int 3])) t3 (.tup [.str "turn", .int 1])) t4 (.tup [.str "red"])) t5 (.tup [])) t6 (.tup [.str "red", .int 1, .int 2])) t7 (.tup [.str "red", .int ((10 : Int) ^ (18 : Int).toNat)])) (a := l) (o := .lst [.ref t0, .ref t1, .ref t2, .ref t3, .ref t4, .ref t5, .ref t6, .ref t7])
    generalize upd (upd (upd (upd (upd (upd (upd (upd (upd H t0 (.tup [.str "red", .int (0 - 1)])) t1 (.tup [.str "blue", .int ((10 : Int) ^ (18 : Int).toNat + 1)])) t2 (.tup [.str "green", .int 3])) t3 (.tup [.str "turn", .int 1])) t4 (.tup [.str "red"])) t5 (.tup [])) t6 (.tup [.str "red", .int 1, .int 2])) t7 (.tup [.str "red", .int ((10 : Int) ^ (18 : Int).toNat)])) l (.lst [.ref t0, .ref t1, .ref t2, .ref t3, .ref t4, .ref t5, .ref t6, .ref t7]) = H9 at *
    clear z0 z1 z2 z3 z4 z5 z6 z7 z8 c0 c1 c2 c3 c4 c5 c6
    refine ⟨_, rfl, .inl ⟨rfl, _, SqL.of el⟩, by show 1 ≤ sizeLine; decide, fun t8 h8 => ⟨l, _, _, rfl, rfl, same_upd h8 _ _ el, by show 8 < sizeLine; decide, ?_⟩⟩
    have y8 := same_upd (o := .tup [.str "turn"]) h8
    have e8 := upd_same (H := H9) (a := t8) (o := .tup [.str "turn"])
    have el8 := y8 _ _ el
    have nl : l ≠ st := let ⟨_, e⟩ := D0.lst; (nlH _ _ e).symm
    have D9 := (D0.same cc).same y8
    generalize upd H9 t8 (.tup [.str "turn"]) = H10 at *
    have b11 := but_app (H := H10) (l := l) (o := .lst ([.ref t0, .ref t1, .ref t2, .ref t3, .ref t4, .ref t5, .ref t6, .ref t7] ++ [.ref t8]))
    have D11 := D9.but b11 ⟨_, el8⟩ nl.symm
    have kt : ∀ t xs, H10 t = some (.tup xs) → upd H10 l (.lst ([.ref t0, .ref t1, .ref t2, .ref t3, .ref t4, .ref t5, .ref t6, .ref t7] ++ [.ref t8])) t = some (.tup xs) := fun t xs e => b11 _ _ (ne_of e el8 fun z => nomatch z) e
    have cH : But st H (upd H10 l (.lst ([.ref t0, .ref t1, .ref t2, .ref t3, .ref t4, .ref t5, .ref t6, .ref t7] ++ [.ref t8]))) := fun b o n e => b11 _ _ (nlH b o e) (y8 _ _ (cc _ _ e))
    have el11 := upd_same (H := H10) (a := l) (o := .lst ([.ref t0, .ref t1, .ref t2, .ref t3, .ref t4, .ref t5, .ref t6, .ref t7] ++ [.ref t8]))
    generalize upd H10 l (.lst ([.ref t0, .ref t1, .ref t2, .ref t3, .ref t4, .ref t5, .ref t6, .ref t7] ++ [.ref t8])) = H11 at *
    refine ⟨_, rfl, _, rfl, st, 9, rfl, D11, by decide, by decide, fun r H12 r0 r1 D12 b12 => ?_⟩
    have el12 := b12 _ _ nl el11
    have kt2 : ∀ t xs, H10 t = some (.tup xs) → H12 t = some (.tup xs) := fun t xs e => let ⟨_, q⟩ := D11.lst; b12 _ _ (ne_of (kt _ _ e) q fun z => nomatch z) (kt _ _ e)
    have nine : r = ((0 : Nat) : Int) ∨ r = ((1 : Nat) : Int) ∨ r = ((2 : Nat) : Int) ∨ r = ((3 : Nat) : Int) ∨ r = ((4 : Nat) : Int) ∨ r = ((5 : Nat) : Int) ∨ r = ((6 : Nat) : Int) ∨ r = ((7 : Nat) : Int) ∨ r = ((8 : Nat) : Int) := by omega
    have b : But st H H12 := cH.trans b12
    have bad : ∀ (j : Nat) (t : Addr) (xs : List V), r = (j : Int) → ([.ref t0, .ref t1, .ref t2, .ref t3, .ref t4, .ref t5, .ref t6, .ref t7] ++ [.ref t8] : List V)[j]? = some (.ref t) → H10 t = some (.tup xs) → BadX xs → ∃ v, atI ([.ref t0, .ref t1, .ref t2, .ref t3, .ref t4, .ref t5, .ref t6, .ref t7] ++ [.ref t8] : List V) r = some v ∧ ((∃ s, StepAt H12 v s ∧ s.ok 1000000000000000000) ∨ BadAt H12 v) :=
      fun j t xs er e1 e2 hb => ⟨_, at_of er e1, .inr ⟨t, xs, rfl, kt2 _ _ e2, hb⟩⟩
    have got : ∃ v, atI ([.ref t0, .ref t1, .ref t2, .ref t3, .ref t4, .ref t5, .ref t6, .ref t7] ++ [.ref t8] : List V) r = some v ∧ ((∃ s, StepAt H12 v s ∧ s.ok 1000000000000000000) ∨ BadAt H12 v) := by
      rcases nine with h | h | h | h | h | h | h | h | h
      · exact bad 0 t0 _ h rfl (y8 _ _ e0) (.num true (0 - 1) (by decide))
      · exact bad 1 t1 _ h rfl (y8 _ _ e1) (.num false ((10 : Int) ^ (18 : Int).toNat + 1) (by rw [e18]; decide))
      · exact bad 2 t2 _ h rfl (y8 _ _ e2) (.green 3)
      · exact bad 3 t3 _ h rfl (y8 _ _ e3) (.turn 1)
      · exact bad 4 t4 _ h rfl (y8 _ _ e4) .one
      · exact bad 5 t5 _ h rfl (y8 _ _ e5) .none
      · exact bad 6 t6 _ h rfl (y8 _ _ e6) (.three 1 2)
      · exact ⟨_, at_of (j := 7) h rfl, .inl ⟨.meet true ((10 : Int) ^ (18 : Int).toNat), ⟨t7, rfl, kt2 _ _ (y8 _ _ e7)⟩, by rw [e18]; decide, by rw [e18]; decide⟩⟩
      · exact ⟨_, at_of (j := 8) h rfl, .inl ⟨.turn, ⟨t8, rfl, kt2 _ _ e8⟩, trivial⟩⟩
    obtain ⟨v, hv, good⟩ := got
    exact ⟨l, _, _, _, rfl, rfl, SqL.of el12, hv, k v H12 D12 b good⟩
end
end Cc

set_option maxHeartbeats 8000000
/-! What is refused. -/
namespace Cc
open PySem PySem.Spec PyProof.Rows L2
open LamX
abbrev CanU (X : Cx) (k : Nat) (C1 C2 C3 : Addr) (σ : L2.St) (f : Addr) (H : Hp) (Q : VK) : Prop := CanAct X k σ f (OutU C1 C2 C3 Q) H Q
theorem lkZ {f : Str} {x : V} {r : List (Str × V)} : ((f, x) :: r).lookup f = some x := by
  rw [List.lookup, beq_self_eq_true f]
/-- a heap in which one object was made, its own dict too -/
theorem same_made {H : Hp} {x dx C : Addr} (hx : H x = none) (hdx : H dx = none) : Same H (upd (upd H dx (.own x)) x (.ins C dx [])) := fun b o e => by
  rw [upd_ne (ne_of_none e hx), upd_ne (ne_of_none e hdx)]
  exact e
theorem few_uniq {c : Int} {ss : List Stp} {i j : Nat} (a : FewAt c ss i) (b : FewAt c ss j) : i = j := by
  have key : ∀ {i j : Nat}, FewAt c ss i → FewAt c ss j → ¬ i < j := fun {i j} a b h => by
    obtain ⟨_, bb, n, hst, hc⟩ := a
    exact b.1 (.meet bb n) (List.mem_of_getElem? (i := i) (by rw [List.getElem?_take_of_lt h]; exact hst)) hc
  have h1 := key a b
  have h2 := key b a
  omega
theorem few_ex {c : Int} : ∀ {ss : List Stp}, (∃ s ∈ ss, bigS c s) → ∃ i, FewAt c ss i
  | [], ⟨_, h, _⟩ => nomatch h
  | s :: ss, h => by
    by_cases hs : bigS c s
    · refine ⟨0, fun t ht => by simp at ht, ?_⟩
      cases s with
      | turn => exact hs.elim
      | meet b n => exact ⟨b, n, rfl, hs⟩
    · obtain ⟨t, ht, hb⟩ := h
      rcases List.mem_cons.mp ht with e | m
      · exact (hs (e ▸ hb)).elim
      · obtain ⟨i, h1, h2⟩ := few_ex ⟨t, m, hb⟩
        refine ⟨i + 1, fun u hu => ?_, h2⟩
        rcases List.mem_cons.mp hu with e | m'
        · exact e ▸ hs
        · exact h1 u m'
theorem few_big {c : Int} {ss : List Stp} {i : Nat} (a : FewAt c ss i) (nb : ∀ s ∈ ss, ¬ bigS c s) : False := by
  obtain ⟨_, b, n, h, hc⟩ := a
  exact nb _ (List.mem_of_getElem? h) hc
def FewV (H : Hp) (i : Int) (v : V) : Prop := ∃ t, v = .ref t ∧ H t = some (.tup [.str "TooFewChairs", .int i])
abbrev fewD (i : Int) : PyData := .tuple [.str "TooFewChairs", .int i]
theorem dp_few {K : PySem.W.Frag} {H : Hp} {i : Int} : ∀ {vs : List V}, (∀ v ∈ vs, FewV H i v) → DpAll K H vs (List.replicate vs.length (fewD i))
  | [], _ => .nil
  | v :: vs, h => by
    obtain ⟨t, rfl, ht⟩ := h v List.mem_cons_self
    exact .cons (.tup (SqT.of ht) (.cons (.str _) (.cons (.int _) .nil))) (dp_few fun u hu => h u (List.mem_cons_of_mem _ hu))
theorem few_sh (i : Int) : SeqAt.shaped (fewD i) = true ∧ SeqAt.shaped (.list (List.replicate 3 (fewD i))) = true ∧ PyData.eqv (fewD i) (fewD i) = true ∧ PyData.eqv (.list (List.replicate 3 (fewD i))) (.list (List.replicate 3 (fewD i))) = true := by
  have h1 : PyData.strOk "TooFewChairs" = true := by decide +kernel
  have e : List.replicate 3 (fewD i) = [fewD i, fewD i, fewD i] := rfl
  rw [e]
  refine ⟨?_, ?_, ?_, ?_⟩
  · simp [SeqAt.shaped, PyData.canLay0, PyData.canLayAll0, PyData.depth, PyData.depthAll, h1]
  · simp [SeqAt.shaped, PyData.canLay0, PyData.canLayAll0, PyData.depth, PyData.depthAll, h1]
  · simp [PyData.eqv, PyData.eqvAll]
  · simp [PyData.eqv, PyData.eqvAll]
def goalD : Option Int → PyData
  | none => .none
  | some g => .int g
abbrev smD (m : Sm) : PyData := .tuple [.int m.low, .int m.high, .int m.extra, goalD m.goal, .bool m.turned]
theorem dp_sm {K : PySem.W.Frag} {H : Hp} (m : Sm) : DpAll K H (smV m) [.int m.low, .int m.high, .int m.extra, goalD m.goal, .bool m.turned] := by
  refine .cons (.int _) (.cons (.int _) (.cons (.int _) (.cons ?_ (.cons (.bl _) .nil))))
  cases m.goal with
  | none => exact .non
  | some g => exact .int g
theorem words_sh (m : Sm) (a x y : Int) : SeqAt.shaped (.list [smD m, .int a, .tuple [.int x, .int y]]) = true ∧ ([smD m, .int a, .tuple [.int x, .int y]].any fun z => PyData.eqv z noNum) = false := by
  obtain ⟨low, high, extra, goal, turned⟩ := m
  cases goal with
  | none => exact ⟨by simp [goalD, SeqAt.shaped, PyData.canLay0, PyData.canLayAll0, PyData.depth, PyData.depthAll], by simp [goalD, PyData.eqv, PyData.eqvAll]⟩
  | some g => exact ⟨by simp [goalD, SeqAt.shaped, PyData.canLay0, PyData.canLayAll0, PyData.depth, PyData.depthAll], by simp [goalD, PyData.eqv, PyData.eqvAll]⟩
def spRefused (C : Addr) (TT : List (Addr × Str)) : Sp := fun vs H Q _ => ∃ (p l : Addr) (ws : List V) (ss : List Stp) (c : Int), vs = [.ref p, .ref l, .int c] ∧ PlanAt C H p ss ∧ H l = some (.lst ws) ∧ Steps H ws ss ∧ ss.length ≤ 60 ∧ (∀ s ∈ ss, s.ok 1000000000000000000) ∧ 0 ≤ c ∧ c ≤ 1000000000000000000 ∧ Tabs TT H ∧
  ∀ H', ExtN H H' → Tabs TT H' → Q (.bl true) H'
section
variable {P : Program} {w : World} {K : PySem.W.Frag} {mg : Str → Option Value} {base : Heap} {C CT CN CP TU pS gS : Addr} {mc : Value}
abbrev s__law_refused : Stmt := top 47
abbrev n__law_refused : List Str := ["_law_plan_here", "_law_steps", "_law_chairs", "_law_few_here", "_law_works", "_law_words", "_law_work"]
theorem sc__law_refused : FnScope n__law_refused ["_law_plan_here", "_law_steps", "_law_chairs"] (defScope s__law_refused) := ⟨rfl, rfl, rfl, by decide +kernel, rfl, by decide +kernel, by decide +kernel⟩
abbrev q__law_refused : Str := (envOfC "_law_refused" (defScope s__law_refused) 0 0 .none).qual ++ "<lambda>"
abbrev X__law_refused (P : Program) (w : World) (K : PySem.W.Frag) (mg : Str → Option Value) (base : Heap) (f c : Addr) (A : Around) (outer : List Env) (s : Shared) (H : Hp) (E : XK) : Cx := (cxOf CX0 P w K mg base n__law_refused "_law_refused" (defScope s__law_refused) f (.ref c) A outer s H E).nox
theorem ok__law_refused {f c Pt fI f__law_few f_first_difference fO fS fC fR fL fV fF : Addr} {oc kV doc pm ct : Value} {od an : Option Addr} {osl : Array (Option Value)} {fdO : FuncData} {TT : List (Addr × Str)}
    (lk : K.lookup f = some ⟨oc, od, .func (PySem.W.fnOf "_law_refused" "_law_refused" (defArgs s__law_refused) (defBody s__law_refused) (defScope s__law_refused) .none kV doc pm an (.ref c) ct), osl⟩) (hcd : PySem.W.codeIn K (.ref c) "_law_refused" = true) (TB : TabB base mg c Pt) (hmT : (Pt, q__law_refused) ∈ TT) (huT : ∀ p ∈ TT, p.1 = Pt → p.2 = q__law_refused) (T : Txt K mg C TU pS gS mc)
    (M : Mk K C fI) (GI : FnR P w K mg base CX0 3 fI (spInit C)) (D__law_few : Dn P w K mg base 1 "_law_few" f__law_few spLFew) (D_first_difference : Dn P w K mg base 6 "first_difference" f_first_difference (spFirst C))
    (FO : Fun K "_law_outcome" "_law_outcome" sOutcome fO fdO) (atO : mg "_law_outcome" = some (.ref fO)) (kpO : PySem.W.keepIn K (.ref fO) = true) (bO : Binds K fdO ["_law_work"] []) (NM : Nam3 mg CN CP CT) (KI : Kin3 K CN CP CT) (XI : Xt3 K CP CT) (XS : DnX P w K mg base 4 "summary" fS (spSumA C CT CN)) (XC : DnX P w K mg base 6 "total_carried" fC (spCarryA C CT CN)) (XR : DnX P w K mg base 6 "red_chairs" fR (spCarryA C CT CN)) (XL : DnX P w K mg base 5 "long_run" fL (spLongA C CT CN)) (XV : DnX P w K mg base 6 "saving" fV (spSaveA C CT CN)) (XF : DnX P w K mg base 6 "first_difference" fF (spFirstA C CT CN)) :
    FnOk P w K mg base CX0 9 f (PySem.W.fnOf "_law_refused" "_law_refused" (defArgs s__law_refused) (defBody s__law_refused) (defScope s__law_refused) .none kV doc pm an (.ref c) ct) ["_law_plan_here", "_law_steps", "_law_chairs"] (spRefused C TT) := by
  have B := T.b
  refine fn_of lk hcd sc__law_refused (fun vs H Q E h => ?_) fun A outer s H vs Q E hr h => ?_
  · obtain ⟨p, l, ws, ss, c, rfl, _⟩ := h
    rfl
  · obtain ⟨p, l, ws, ss, cc, rfl, hp, hL, gs, hl, ho, c0, c1, T0, k⟩ := h
    suffices h : ∃ t, PSs (X__law_refused P w K mg base f c A outer s H E) (defBody s__law_refused) t ∧ t { nx := fun _ H' => Q .non H', rt := Q } (start n__law_refused [.ref p, .ref l, .int cc]) H from let ⟨t, h1, h2⟩ := h; ⟨t, h1.nox, h2⟩
    have hm : (Pt, (X__law_refused P w K mg base f c A outer s H E).env.qual ++ "<lambda>") ∈ TT := hmT
    have hu : ∀ p ∈ TT, p.1 = Pt → p.2 = (X__law_refused P w K mg base f c A outer s H E).env.qual ++ "<lambda>" := huT
    refine ⟨_, pss_cons (ps_set (i := 3) sc__law_refused.nd rfl (.inl rfl) (pe_callR D__law_few.ok (hr.mono (by decide)) rfl D__law_few.at_ D__law_few.kp pass0 (pa_cons (pv 1) (pa_cons (pv 2) pa_nil))))
      (pss_cons (ps_set (i := 4) sc__law_refused.nd rfl (.inl rfl) (pe_lst (pa_cons (pe_lam0 TB rfl hm hu rfl rfl fun ok => (lamN_by (N := n__law_refused) (sc := defScope s__law_refused) (by decide +kernel)).has ok) (pa_cons (pe_lam1 TB rfl hm hu rfl pe_int fun ok => (lamN_by (N := n__law_refused) (sc := defScope s__law_refused) (by decide +kernel)).has ok) pa_nil))))
      (pss_cons (ps_expr (pe_bm PySem.F.plainAttrs_list PySem.F.slot_list_append PySem.F.type_list_append mt_append (pv 4) (pa_cons (pe_lam1 TB rfl hm hu rfl pe_int fun ok => (lamN_by (N := n__law_refused) (sc := defScope s__law_refused) (by decide +kernel)).has ok) pa_nil)))
      (pss_cons (ps_setLcI (i := 5) (own := [("_law_work", 6)]) (g := gName 6) (tt := tYes) (te := fun σ σB H' Q => ∃ f', σB[6]? = some (some (.ref f')) ∧ CanU (X__law_refused P w K mg base f c A outer s H E) 6 CN CP CT σ f' H' Q) rfl sc__law_refused.nd rfl rfl (sw_true rfl rfl rfl (by decide +kernel)) (pi_list (pv 4)) (blkOk_by (N := n__law_refused) (sc := defScope s__law_refused) (by decide +kernel)) (fun _ _ _ _ _ => pg_name (i := 6) sc__law_refused.nd rfl (.inl rfl)) (fun _ _ _ _ _ => pts_nil) (fun pins σ s H C' cl fp I hfp => by exact pe_outUI I hfp FO atO kpO bO NM KI XI (hr.mono (by decide)) (by rfl) rfl (.inl rfl)))
      (pss_cons (ps_if (PW.pt (pw_or (PW.pt (pw_and (pt_cmpR op_notN (pv 3) pe_non (nomark _)) (pw_and1 (pt_cmpR (op_neD hr.units) (pv 5) (pe_op op_rep (pe_lst (pa_cons (pe_tup (pa_cons pe_str (pa_cons (pv 3) pa_nil))) pa_nil)) pe_int) (nomark _))))) (pw_or1 (PW.pt (pw_and (pt_cmpR op_isN (pv 3) pe_non (nomark _)) (pw_and1 (pt_cmpR (op_inD (room65 hr)) (pe_tup (pa_cons pe_str pa_nil)) (pv 5) (by rfl))))))))
        (pss_one (ps_ret pe_bl)) pss_nil)
      (pss_cons (ps_if (pt_cmpR op_notN (pv 3) pe_non (nomark _))
        (pss_cons (ps_if (pt_cmpR op_notN (pe_callR D_first_difference.ok (hr.mono (by decide)) rfl D_first_difference.at_ D_first_difference.kp pass0 (pa_cons (pe_makeR0 M GI (hr.mono (by decide)) rfl T.gP pass0) (pa_cons (pe_makeR0 M GI (hr.mono (by decide)) rfl T.gP pass0) (pa_cons (pv 2) pa_nil)))) pe_non (nomark _))
          (pss_one (ps_ret pe_bl)) pss_nil)
        (pss_one (ps_ret (pe_cmpR (op_eqD hr.units) (pe_outU (k := 6) FO atO kpO bO NM KI XI (hr.mono (by decide)) (by rfl) (pe_lam0 TB rfl hm hu rfl rfl fun ok => (lamN_by (N := n__law_refused) (sc := defScope s__law_refused) (by decide +kernel)).has ok)) (pe_tup (pa_cons pe_str (pa_cons (pv 3) pa_nil))) (nomark _))))) pss_nil)
      (pss_cons (ps_set (i := 4) sc__law_refused.nd rfl (.inl rfl) (pe_lst (pa_cons (pe_lam0 TB rfl hm hu rfl rfl fun ok => (lamN_by (N := n__law_refused) (sc := defScope s__law_refused) (by decide +kernel)).has ok) (pa_cons (pe_lam1 TB rfl hm hu rfl pe_int fun ok => (lamN_by (N := n__law_refused) (sc := defScope s__law_refused) (by decide +kernel)).has ok) pa_nil))))
      (pss_cons (ps_set (i := 4) sc__law_refused.nd rfl (.inl rfl) (pe_op op_cat (pv 4) (pe_lst (pa_cons (pe_lam1 TB rfl hm hu rfl pe_int fun ok => (lamN_by (N := n__law_refused) (sc := defScope s__law_refused) (by decide +kernel)).has ok) pa_nil))))
      (pss_cons (ps_set (i := 4) sc__law_refused.nd rfl (.inl rfl) (pe_op op_cat (pv 4) (pe_lst (pa_cons (pe_lam1 TB rfl hm hu rfl pe_int fun ok => (lamN_by (N := n__law_refused) (sc := defScope s__law_refused) (by decide +kernel)).has ok) pa_nil))))
      (pss_cons (ps_set (i := 4) sc__law_refused.nd rfl (.inl rfl) (pe_op op_cat (pv 4) (pe_lst (pa_cons (pe_lam1 TB rfl hm hu rfl pe_int fun ok => (lamN_by (N := n__law_refused) (sc := defScope s__law_refused) (by decide +kernel)).has ok) (pa_cons (pe_lam1 TB rfl hm hu rfl pe_int fun ok => (lamN_by (N := n__law_refused) (sc := defScope s__law_refused) (by decide +kernel)).has ok) pa_nil)))))
      (pss_cons (ps_expr (pe_bm PySem.F.plainAttrs_list PySem.F.slot_list_append PySem.F.type_list_append mt_append (pv 4) (pa_cons (pe_lam1 TB rfl hm hu rfl pe_int fun ok => (lamN_by (N := n__law_refused) (sc := defScope s__law_refused) (by decide +kernel)).has ok) pa_nil)))
      (pss_one (ps_ret (pe_cmpR (op_eqD hr.units) (pe_lcI (own := [("_law_work", 6)]) (g := gName 6) (tt := tYes) (te := fun σ σB H' Q => ∃ f', σB[6]? = some (some (.ref f')) ∧ CanU (X__law_refused P w K mg base f c A outer s H E) 6 CN CP CT σ f' H' Q) rfl sc__law_refused.nd (pi_list (pv 4)) (blkOk_by (N := n__law_refused) (sc := defScope s__law_refused) (by decide +kernel)) (fun _ _ _ _ _ => pg_name (i := 6) sc__law_refused.nd rfl (.inl rfl)) (fun _ _ _ _ _ => pts_nil) (fun pins σ s H C' cl fp I hfp => by exact pe_outUI I hfp FO atO kpO bO NM KI XI (hr.mono (by decide)) (by rfl) rfl (.inl rfl))) (pe_op op_rep (pe_lst (pa_cons (pe_tup (pa_cons pe_str pa_nil)) pa_nil)) pe_int) (nomark _)))))))))))))), ?_⟩
    by_cases hb : ∃ i, FewAt cc ss i
    · obtain ⟨i0, fa0⟩ := hb
      refine ⟨_, rfl, _, rfl, cc, l, ws, ss, rfl, hL, gs, by omega, fun i H1 fa s1 => ?_, fun nb => (few_big fa0 nb).elim⟩
      have T1 := Tabs.ext T0 s1
      refine ⟨T1, fun f0 G1 nf0 y1 t1 l0 => ⟨t1, fun f1 G2 nf1 y2 t2 l1 => ⟨by show 2 ≤ sizeLine; decide, fun wl hwl => ?_⟩⟩⟩
      have s3 := same_upd (o := .lst [.ref f0, .ref f1]) hwl
      have e3 := upd_same (H := G2) (a := wl) (o := .lst [.ref f0, .ref f1])
      replace l0 := l0.ext (y2.trans (extN_same s3))
      replace l1 := l1.ext (extN_same s3)
      have T3 := Tabs.ext t2 s3
      have X3 := (extN_same s1).trans ((y1.trans y2).trans (extN_same s3))
      have nw : ∀ b o, H b = some o → (∀ ps, o ≠ .tbl ps) → b ≠ wl := fun b o e z q => by
        have := ((extN_same s1).trans (y1.trans y2)) b o e z
        rw [q, hwl] at this
        cases this
      generalize upd G2 wl (.lst [.ref f0, .ref f1]) = H3 at *
      clear hwl t1 t2 y1 y2 nf0 nf1 s3 G1 G2
      refine ⟨_, rfl, .inl ⟨rfl, _, SqL.of e3⟩, T3, fun f2 G4 nf2 y4 t4 l2 => ⟨wl, _, _, rfl, rfl, extN_lst y4 e3, by show 2 < sizeLine; decide, ?_⟩⟩
      have e4 := extN_lst y4 e3
      have b5 := but_app (H := G4) (l := wl) (o := .lst ([.ref f0, .ref f1] ++ [.ref f2]))
      replace l0 := lamAt_but (l0.ext y4) b5 ⟨_, e4⟩
      replace l1 := lamAt_but (l1.ext y4) b5 ⟨_, e4⟩
      replace l2 := lamAt_but l2 b5 ⟨_, e4⟩
      have T5 := tabs_but t4 b5 ⟨_, e4⟩
      have X5 : ExtN H (upd G4 wl (.lst ([.ref f0, .ref f1] ++ [.ref f2]))) := fun b o e z => b5 _ _ (nw b o e z) ((X3.trans y4) b o e z)
      have e5 := upd_same (H := G4) (a := wl) (o := .lst ([.ref f0, .ref f1] ++ [.ref f2]))
      generalize upd G4 wl (.lst ([.ref f0, .ref f1] ++ [.ref f2])) = H5 at *
      clear b5 e4 t4 y4 nf2 G4 X3 T3 e3 H3
      have hp5 := planAt_extN hp X5
      refine ⟨_, rfl, wl, rfl, ⟨_, SqL.of e5⟩, fun D hD => ?_⟩
      refine lc_list (K := K) (a := wl) (g := gName 6) (tt := tYes) (te := fun σB H' Q => ∃ f', σB[6]? = some (some (V.ref f')) ∧ CanU (X__law_refused P w K mg base f c A outer s H E) 6 CN CP CT _ f' H' Q) (vs := [6]) (xs := [.ref f0, .ref f1, .ref f2]) (fun j H' => Same H5 H' ∧ ∃ ys, H' D = some (.lst ys) ∧ ys.length = j ∧ ∀ v ∈ ys, FewV H' (i : Nat) v) ⟨same_upd hD, [], upd_same, rfl, fun v hv => nomatch hv⟩ (fun j H' _ ⟨sT, _⟩ => SqL.of (sT _ _ e5)) ?_ ?_
      · rintro j y H' hy ⟨sT, ys, eD, lnD, noD⟩
        have i2 : j < 3 := (List.getElem?_eq_some_iff.mp hy).1
        have fin : ∀ (H2 : Hp), Same H' H2 → ∀ p, H2 p = none → ∃ acc, upd H2 p (.tup [.str "TooFewChairs", .int (i : Nat)]) D = some (.lst acc) ∧ acc.length < sizeLine ∧ Same H5 (upd (upd H2 p (.tup [.str "TooFewChairs", .int (i : Nat)])) D (.lst (acc ++ [.ref p]))) ∧
            ∃ ys, (upd (upd H2 p (.tup [.str "TooFewChairs", .int (i : Nat)])) D (.lst (acc ++ [.ref p]))) D = some (.lst ys) ∧ ys.length = j + 1 ∧ ∀ v ∈ ys, FewV (upd (upd H2 p (.tup [.str "TooFewChairs", .int (i : Nat)])) D (.lst (acc ++ [.ref p]))) (i : Nat) v := fun H2 s3 p hp => by
          have sp := same_upd (o := .tup [.str "TooFewChairs", .int (i : Nat)]) hp
          have ep := upd_same (H := H2) (a := p) (o := .tup [.str "TooFewChairs", .int (i : Nat)])
          have eD3 := sp _ _ (s3 _ _ eD)
          have up : ∀ t, upd H2 p (.tup [.str "TooFewChairs", .int (i : Nat)]) t = some (.tup [.str "TooFewChairs", .int (i : Nat)]) → upd (upd H2 p (.tup [.str "TooFewChairs", .int (i : Nat)])) D (.lst (ys ++ [.ref p])) t = some (.tup [.str "TooFewChairs", .int (i : Nat)]) := fun t e => by
            rw [upd_ne (ne_of e eD3 fun z => nomatch z)]
            exact e
          refine ⟨ys, eD3, by rw [sizeLine_eq]; omega, same_new hD (sT.trans (s3.trans sp)), _, upd_same, by rw [List.length_append, lnD]; rfl, fun v hv => ?_⟩
          rcases List.mem_append.mp hv with q | q
          · obtain ⟨t, rfl, e⟩ := noD v q
            exact ⟨t, rfl, up t (sp _ _ (s3 _ _ e))⟩
          · rw [List.mem_singleton.mp q]
            exact ⟨p, rfl, up p ep⟩
        have fe : ∀ {Q : VK}, (∀ (H2 : Hp), Same H' H2 → ∀ p, H2 p = none → Q (.ref p) (upd H2 p (.tup [.str "TooFewChairs", .int (i : Nat)]))) → FewE CT H' cc ss (OutU CN CP CT Q) := fun {Q} g i' H'' d fa' sd hd => by
          have ei := few_uniq fa' fa
          subst ei
          exact .inr (.inr ⟨rfl, d, _, _, rfl, upd_same, lkZ, fun p hp => g _ (sd.trans (same_upd hd)) p hp⟩)
        have no : ∀ {α : Prop}, (∀ s ∈ ss, ¬ bigS cc s) → α := fun nb => (few_big fa nb).elim
        have c3 : j = 0 ∨ j = 1 ∨ j = 2 := by omega
        rcases c3 with rfl | rfl | rfl
        · cases hy
          refine ⟨rfl, _, rfl, _, _, _, _, _, (l0.ext (extN_same sT)), lamN_by (N := n__law_refused) (sc := defScope s__law_refused) (by decide +kernel), .inl ⟨rfl, fun _ _ _ _ _ => rfl⟩, fun _ _ _ _ _ _ => rfl, fun A' outer' s' H3 c' hr' => by exact pe_callR (Ez := _) XS.ok (hr'.mono (by decide)) rfl XS.at_ XS.kp (passes_call (takes_of rfl rfl rfl rfl) fun _ _ _ _ h => h) (pa_cons (pv 0) (pa_cons (pv 2) pa_nil)), ?_⟩
          exact ⟨_, rfl, _, rfl, p, ss, cc, rfl, hp5.same sT, hl, (fun z => (z ⟨c0, c1⟩).elim), (fun _ _ => fe fin), fun _ _ nb => no nb⟩
        · cases hy
          refine ⟨rfl, _, rfl, _, _, _, _, _, (l1.ext (extN_same sT)), lamN_by (N := n__law_refused) (sc := defScope s__law_refused) (by decide +kernel), .inr ⟨"_law_a", rfl, fun _ _ _ _ _ _ _ => ⟨_, rfl, rfl⟩⟩, (fun z => nomatch z), fun A' outer' s' H3 c' hr' => by exact pe_callR (Ez := _) XC.ok (hr'.mono (by decide)) rfl XC.at_ XC.kp (passes_call (takes_of rfl rfl rfl rfl) fun _ _ _ _ h => h) (pa_cons (pv 0) (pa_cons (pv 2) (pa_cons pe_int (pa_cons pe_int pa_nil)))), ?_⟩
          exact ⟨_, rfl, _, rfl, p, ss, cc, 0, 0, rfl, hp5.same sT, hl, ho, c0, c1, fe fin, no, no⟩
        · cases hy
          refine ⟨rfl, _, rfl, _, _, _, _, _, (l2.ext (extN_same sT)), lamN_by (N := n__law_refused) (sc := defScope s__law_refused) (by decide +kernel), .inr ⟨"_law_b", rfl, fun _ _ _ _ _ _ _ => ⟨_, rfl, rfl⟩⟩, (fun z => nomatch z), fun A' outer' s' H3 c' hr' => by exact pe_callR (Ez := _) XL.ok (hr'.mono (by decide)) rfl XL.at_ XL.kp (passes_call (takes_of rfl rfl rfl rfl) fun _ _ _ _ h => h) (pa_cons (pv 0) (pa_cons (pv 2) pa_nil)), ?_⟩
          exact ⟨_, rfl, _, rfl, p, ss, cc, rfl, hp5.same sT, hl, ho, (fun z => (z ⟨c0, c1⟩).elim), (fun _ _ => fe fin), fun _ _ nb => no nb⟩
      · rintro H' ⟨sT, ys, eD, lnD, noD⟩
        refine ⟨_, rfl, rfl, _, rfl, ifT rfl ⟨_, rfl, _, rfl, by show 2 ≤ sizeLine; decide, fun t ht => ⟨by show 1 ≤ sizeLine; decide, fun lq hlq => ⟨lq, 3, _, rfl, rfl, upd_same, by decide, by decide, by rw [sizeLine_eq]; show 1 * 3 ≤ 16777216; decide, fun qq hqq => ?_⟩⟩⟩⟩
        have s30 := ((same_upd (o := .tup [.str "TooFewChairs", .int (i : Nat)]) ht).trans (same_upd (o := .lst [.ref t]) hlq)).trans (same_upd (o := .lst (List.replicate (3 : Int).toNat [V.ref t]).flatten) hqq)
        have et := ((same_upd (o := .lst [.ref t]) hlq).trans (same_upd (o := .lst (List.replicate (3 : Int).toNat [V.ref t]).flatten) hqq)) _ _ (upd_same : upd H' t (.tup [.str "TooFewChairs", .int (i : Nat)]) t = some (.tup [.str "TooFewChairs", .int (i : Nat)]))
        have gq : (upd (upd (upd H' t (.tup [.str "TooFewChairs", .int (i : Nat)])) lq (.lst [.ref t])) qq (.lst (List.replicate (3 : Int).toNat [V.ref t]).flatten)) qq = some (.lst [.ref t, .ref t, .ref t]) := upd_same
        generalize upd (upd (upd H' t (.tup [.str "TooFewChairs", .int (i : Nat)])) lq (.lst [.ref t])) qq (.lst (List.replicate (3 : Int).toNat [V.ref t]).flatten) = H30 at *
        have d1 : DpAll K H30 ys (List.replicate 3 (fewD (i : Nat))) := by
          have z := dp_few (K := K) (H := H30) (i := (i : Nat)) (vs := ys) fun v hv => let ⟨t, e1, e2⟩ := noD v hv; ⟨t, e1, s30 _ _ e2⟩
          have l2 : ys.length = 3 := lnD
          rw [l2] at z
          exact z
        have d2 : DpAll K H30 [.ref t, .ref t, .ref t] (List.replicate 3 (fewD (i : Nat))) := dp_few (vs := [.ref t, .ref t, .ref t]) fun v hv => by
          have : v = .ref t := by simpa using hv
          exact ⟨t, this, et⟩
        obtain ⟨q1, q2, q3, q4⟩ := few_sh (i : Nat)
        refine ⟨.list (List.replicate 3 (fewD (i : Nat))), .list (List.replicate 3 (fewD (i : Nat))), .lst (SqL.of (s30 _ _ eD)) d1, .lst (SqL.of gq) d2, q2, q2, _, rfl, ifF (by rw [q4]; rfl) ?_⟩
        refine ⟨_, rfl, rfl, _, rfl, ifF rfl (ifF rfl ?_)⟩
        have s31 := sT.trans s30
        have T31 := Tabs.ext T5 s31
        have X31 := X5.trans (extN_same s31)
        refine ⟨_, rfl, rfl, _, rfl, ifT rfl ?_⟩
        -- two plans without steps
        refine fun q dq hq hdq hne => ⟨q, dq, [], [], rfl, upd_same, .nil, by decide, by simp, fun H32 tz b4 b5 b6 => ⟨rfl, fun q' dq' hq' hdq' hne' => ⟨q', dq', [], [], rfl, upd_same, .nil, by decide, by simp, fun H33 tz' b7 b8 b9 => ⟨rfl, _, rfl, ?_⟩⟩⟩⟩
        have s32 : Same H30 H32 := fun b o e => b4 b o (ne_of_none e hq) (same_made hq hdq b o e)
        have s33 : Same H32 H33 := fun b o e => b7 b o (ne_of_none e hq') (same_made hq' hdq' b o e)
        have pq : PlanAt C H33 q [] := PlanAt.same ⟨dq, tz, [], b5, b6, .nil⟩ s33
        refine ⟨q, q', [], [], cc, rfl, pq, ⟨dq', tz', [], b8, b9, .nil⟩, c0, c1, (fun s hs => nomatch hs), (fun s hs => nomatch hs), by decide, by decide, fun o H34 s34 ff => ?_⟩
        have eo : o = none := by
          cases o with
          | none => rfl
          | some x => exact (ff.2.2.1 rfl).elim
        subst eo
        refine ⟨rfl, _, rfl, ifF rfl ?_⟩
        have s35 := s32.trans (s33.trans s34)
        have T35 := Tabs.ext T31 s35
        have X35 := X31.trans (extN_same s35)
        have hp35 := planAt_extN hp X35
        refine ⟨T35, fun f6 H36 nf6 y36 T36 l6 => ⟨f6, rfl, _, _, _, _, _, l6, lamN_by (N := n__law_refused) (sc := defScope s__law_refused) (by decide +kernel), .inl ⟨rfl, fun _ _ _ _ _ => rfl⟩, fun _ _ _ _ _ _ => rfl, fun A' outer' s' H3 c' hr' => by exact pe_callR (Ez := _) XF.ok (hr'.mono (by decide)) rfl XF.at_ XF.kp (passes_call (takes_of rfl rfl rfl rfl) fun _ _ _ _ h => h) (pa_cons (pe_makeR0 M GI (hr'.mono (by decide)) rfl T.gP pass0) (pa_cons (pv 0) (pa_cons (pv 2) pa_nil))), ?_⟩⟩
        refine fun q2 dq2 hq2 hdq2 hne2 => ⟨q2, dq2, [], [], rfl, upd_same, .nil, by decide, by simp, fun H37 tz b4 b5 b6 => ⟨rfl, _, rfl, _, rfl, ?_⟩⟩
        have s37 : Same H36 H37 := fun b o e => b4 b o (ne_of_none e hq2) (same_made hq2 hdq2 b o e)
        have hp37 := (planAt_extN hp35 y36).same s37
        refine ⟨q2, p, [], ss, cc, rfl, ⟨dq2, tz, [], b5, b6, .nil⟩, hp37, by decide, hl, c0, c1, (fun s hs => nomatch hs), ?_, fun i' H38 d fa' s38 hd => ?_⟩
        · obtain ⟨_, b, n, hb, hc⟩ := id fa
          exact ⟨_, List.mem_of_getElem? hb, hc⟩
        have ei := few_uniq fa' fa
        subst ei
        refine .inr (.inr ⟨rfl, d, _, _, rfl, upd_same, lkZ, fun p39 hp39 => ⟨_, rfl, by show 2 ≤ sizeLine; decide, fun t40 ht40 => ⟨fewD (i' : Nat), fewD (i' : Nat), .tup (SqT.of (same_upd ht40 _ _ upd_same)) (.cons (.str _) (.cons (.int _) .nil)), .tup (SqT.of upd_same) (.cons (.str _) (.cons (.int _) .nil)), q1, q1, ?_⟩⟩⟩)
        rw [q3]
        have sE := (s37.trans (s38.trans (same_upd (o := .xd [(("index" : Str), .int (i' : Nat))]) hd))).trans ((same_upd (o := .tup [.str "TooFewChairs", .int (i' : Nat)]) hp39).trans (same_upd (o := .tup [.str "TooFewChairs", .int (i' : Nat)]) ht40))
        exact k _ (X35.trans (y36.trans (extN_same sE))) (Tabs.ext T36 sE)
    · have nb : ∀ s ∈ ss, ¬ bigS cc s := fun s hs h => hb (few_ex ⟨s, hs, h⟩)
      refine ⟨_, rfl, _, rfl, cc, l, ws, ss, rfl, hL, gs, by omega, fun i' H1 fa' s1 => (few_big fa' nb).elim, fun _ H1 s1 => ?_⟩
      have T1 := Tabs.ext T0 s1
      refine ⟨T1, fun f0 G1 nf0 y1 t1 l0 => ⟨t1, fun f1 G2 nf1 y2 t2 l1 => ⟨by show 2 ≤ sizeLine; decide, fun wl hwl => ?_⟩⟩⟩
      have s3 := same_upd (o := .lst [.ref f0, .ref f1]) hwl
      have e3 := upd_same (H := G2) (a := wl) (o := .lst [.ref f0, .ref f1])
      replace l0 := l0.ext (y2.trans (extN_same s3))
      replace l1 := l1.ext (extN_same s3)
      have T3 := Tabs.ext t2 s3
      have X3 := (extN_same s1).trans ((y1.trans y2).trans (extN_same s3))
      have nw : ∀ b o, H b = some o → (∀ ps, o ≠ .tbl ps) → b ≠ wl := fun b o e z q => by
        have := ((extN_same s1).trans (y1.trans y2)) b o e z
        rw [q, hwl] at this
        cases this
      generalize upd G2 wl (.lst [.ref f0, .ref f1]) = H3 at *
      clear hwl t1 t2 y1 y2 nf0 nf1 s3 G1 G2
      refine ⟨_, rfl, .inl ⟨rfl, _, SqL.of e3⟩, T3, fun f2 G4 nf2 y4 t4 l2 => ⟨wl, _, _, rfl, rfl, extN_lst y4 e3, by show 2 < sizeLine; decide, ?_⟩⟩
      have e4 := extN_lst y4 e3
      have b5 := but_app (H := G4) (l := wl) (o := .lst ([.ref f0, .ref f1] ++ [.ref f2]))
      replace l0 := lamAt_but (l0.ext y4) b5 ⟨_, e4⟩
      replace l1 := lamAt_but (l1.ext y4) b5 ⟨_, e4⟩
      replace l2 := lamAt_but l2 b5 ⟨_, e4⟩
      have T5 := tabs_but t4 b5 ⟨_, e4⟩
      have X5 : ExtN H (upd G4 wl (.lst ([.ref f0, .ref f1] ++ [.ref f2]))) := fun b o e z => b5 _ _ (nw b o e z) ((X3.trans y4) b o e z)
      have e5 := upd_same (H := G4) (a := wl) (o := .lst ([.ref f0, .ref f1] ++ [.ref f2]))
      generalize upd G4 wl (.lst ([.ref f0, .ref f1] ++ [.ref f2])) = H5 at *
      clear b5 e4 t4 y4 nf2 G4 X3 T3 e3 H3
      have hp5 := planAt_extN hp X5
      refine ⟨_, rfl, wl, rfl, ⟨_, SqL.of e5⟩, fun D hD => ?_⟩
      refine lc_list (K := K) (a := wl) (g := gName 6) (tt := tYes) (te := fun σB H' Q => ∃ f', σB[6]? = some (some (V.ref f')) ∧ CanU (X__law_refused P w K mg base f c A outer s H E) 6 CN CP CT _ f' H' Q) (vs := [6]) (xs := [.ref f0, .ref f1, .ref f2]) (fun j H' => Same H5 H' ∧ ∃ (m : Sm) (t0 t2 : Addr) (a x y : Int), H' D = some (.lst (([.ref t0, .int a, .ref t2] : List V).take j)) ∧ (0 < j → H' t0 = some (.tup (smV m))) ∧ (2 < j → H' t2 = some (.tup [.int x, .int y]))) ⟨same_upd hD, ⟨0, 0, 0, none, false⟩, 0, 0, 0, 0, 0, upd_same, (fun z => absurd z (by decide)), fun z => absurd z (by decide)⟩ (fun j H' _ ⟨sT, _⟩ => SqL.of (sT _ _ e5)) ?_ ?_
      · rintro j y H' hy ⟨sT, m, t0, t2, a, x', y', eD, g0, g2⟩
        have i2 : j < 3 := (List.getElem?_eq_some_iff.mp hy).1
        have c3 : j = 0 ∨ j = 1 ∨ j = 2 := by omega
        rcases c3 with rfl | rfl | rfl
        · cases hy
          refine ⟨rfl, _, rfl, _, _, _, _, _, (l0.ext (extN_same sT)), lamN_by (N := n__law_refused) (sc := defScope s__law_refused) (by decide +kernel), .inl ⟨rfl, fun _ _ _ _ _ => rfl⟩, fun _ _ _ _ _ _ => rfl, fun A' outer' s' H3 c' hr' => by exact pe_callR (Ez := _) XS.ok (hr'.mono (by decide)) rfl XS.at_ XS.kp (passes_call (takes_of rfl rfl rfl rfl) fun _ _ _ _ h => h) (pa_cons (pv 0) (pa_cons (pv 2) pa_nil)), ?_⟩
          refine ⟨_, rfl, _, rfl, p, ss, cc, rfl, hp5.same sT, hl, (fun z => (z ⟨c0, c1⟩).elim), (fun _ _ i H d fa => (few_big fa nb).elim), fun _ _ _ q m' H2 s2 eq => ?_⟩
          have eD2 := s2 _ _ eD
          exact ⟨_, eD2, by show 0 < sizeLine; decide, same_new hD (sT.trans s2), m', q, t2, a, x', y', upd_same, (fun _ => by rw [upd_ne (ne_of eq eD2 fun z => nomatch z)]; exact eq), fun z => absurd z (by decide)⟩
        · cases hy
          refine ⟨rfl, _, rfl, _, _, _, _, _, (l1.ext (extN_same sT)), lamN_by (N := n__law_refused) (sc := defScope s__law_refused) (by decide +kernel), .inr ⟨"_law_a", rfl, fun _ _ _ _ _ _ _ => ⟨_, rfl, rfl⟩⟩, (fun z => nomatch z), fun A' outer' s' H3 c' hr' => by exact pe_callR (Ez := _) XC.ok (hr'.mono (by decide)) rfl XC.at_ XC.kp (passes_call (takes_of rfl rfl rfl rfl) fun _ _ _ _ h => h) (pa_cons (pv 0) (pa_cons (pv 2) (pa_cons pe_int (pa_cons pe_int pa_nil)))), ?_⟩
          refine ⟨_, rfl, _, rfl, p, ss, cc, 0, 0, rfl, hp5.same sT, hl, ho, c0, c1, (fun i H d fa => (few_big fa nb).elim), (fun _ z => (z ⟨⟨by decide, c0⟩, by decide, by decide⟩).elim), fun _ _ _ _ _ a' H2 s2 => ?_⟩
          have eD2 := s2 _ _ eD
          have eq := s2 _ _ (g0 (by decide))
          exact ⟨_, eD2, by show 1 < sizeLine; decide, same_new hD (sT.trans s2), m, t0, t2, a', x', y', upd_same, (fun _ => by rw [upd_ne (ne_of eq eD2 fun z => nomatch z)]; exact eq), fun z => absurd z (by decide)⟩
        · cases hy
          refine ⟨rfl, _, rfl, _, _, _, _, _, (l2.ext (extN_same sT)), lamN_by (N := n__law_refused) (sc := defScope s__law_refused) (by decide +kernel), .inr ⟨"_law_b", rfl, fun _ _ _ _ _ _ _ => ⟨_, rfl, rfl⟩⟩, (fun z => nomatch z), fun A' outer' s' H3 c' hr' => by exact pe_callR (Ez := _) XL.ok (hr'.mono (by decide)) rfl XL.at_ XL.kp (passes_call (takes_of rfl rfl rfl rfl) fun _ _ _ _ h => h) (pa_cons (pv 0) (pa_cons (pv 2) pa_nil)), ?_⟩
          refine ⟨_, rfl, _, rfl, p, ss, cc, rfl, hp5.same sT, hl, ho, (fun z => (z ⟨c0, c1⟩).elim), (fun _ _ i H d fa => (few_big fa nb).elim), fun _ _ _ q x2 y2 H2 s2 eq2 => ?_⟩
          have eD2 := s2 _ _ eD
          have eq := s2 _ _ (g0 (by decide))
          exact ⟨_, eD2, by show 2 < sizeLine; decide, same_new hD (sT.trans s2), m, t0, q, a, x2, y2, upd_same, (fun _ => by rw [upd_ne (ne_of eq eD2 fun z => nomatch z)]; exact eq), fun _ => by rw [upd_ne (ne_of eq2 eD2 fun z => nomatch z)]; exact eq2⟩
      · rintro H' ⟨sT, m, t0, t2, a, x', y', eD, g0, g2⟩
        refine ⟨_, rfl, rfl, _, rfl, ifF rfl (ifF rfl ⟨_, rfl, rfl, _, rfl, ifT rfl ⟨by show 1 ≤ sizeLine; decide, fun t ht => ⟨_, rfl, noNum, [smD m, .int a, .tuple [.int x', .int y']], .tup (SqT.of upd_same) (.cons (.str _) .nil), .lst (SqL.of (same_upd ht _ _ eD)) (.cons (.tup (SqT.of (same_upd ht _ _ (g0 (show 0 < 3 by decide)))) (dp_sm m)) (.cons (.int _) (.cons (.tup (SqT.of (same_upd ht _ _ (g2 (show 2 < 3 by decide)))) (.cons (.int _) (.cons (.int _) .nil))) .nil))), by decide +kernel, (words_sh m a x' y').1, _, rfl, ifF (words_sh m a x' y').2 ?_⟩⟩⟩)⟩
        have s6 := sT.trans (same_upd (o := .tup [.str "InvalidNumber"]) ht)
        have T6 := Tabs.ext T5 s6
        have X6 := X5.trans (extN_same s6)
        generalize upd H' t (.tup [.str "InvalidNumber"]) = H6 at *
        refine ⟨_, rfl, rfl, _, rfl, ifF rfl ?_⟩
        clear l0 l1 l2 hp5 e5 nw eD g0 g2 X5 T5 hD
        -- two
        refine ⟨T6, fun f0 G1 nf0 y1 t1 l0 => ⟨t1, fun f1 G2 nf1 y2 t2 l1 => ⟨by show 2 ≤ sizeLine; decide, fun w0 hw0 => ?_⟩⟩⟩
        have s7 := same_upd (o := .lst [.ref f0, .ref f1]) hw0
        have e7 := upd_same (H := G2) (a := w0) (o := .lst [.ref f0, .ref f1])
        replace l0 := l0.ext (y2.trans (extN_same s7))
        replace l1 := l1.ext (extN_same s7)
        have T7 := Tabs.ext t2 s7
        have X7 := X6.trans ((y1.trans y2).trans (extN_same s7))
        generalize upd G2 w0 (.lst [.ref f0, .ref f1]) = H7 at *
        clear hw0 t1 t2 y1 y2 nf0 nf1 s7 G1 G2 X6 T6
        refine ⟨_, rfl, T7, fun f2 G1 nf y1 t1 l2 => ⟨by show 1 ≤ sizeLine; decide, fun lq hlq => ⟨w0, lq, _, _, rfl, rfl, same_upd hlq _ _ (extN_lst y1 e7), upd_same, by show 2 + 1 ≤ sizeLine; decide, fun w1 hw => ?_⟩⟩⟩
        have z := (same_upd (o := .lst [.ref f2]) hlq).trans (same_upd (o := .lst ([.ref f0, .ref f1] ++ [.ref f2])) hw)
        have e8 := upd_same (H := upd G1 lq (.lst [.ref f2])) (a := w1) (o := .lst ([.ref f0, .ref f1] ++ [.ref f2]))
        have nw : ∀ b o, H b = some o → (∀ ps, o ≠ .tbl ps) → b ≠ w1 := fun b o e q q2 => by
          have := ((X7.trans y1).trans (extN_same (same_upd (o := .lst [.ref f2]) hlq))) b o e q
          rw [q2, hw] at this
          cases this
        replace l0 := l0.ext (y1.trans (extN_same z))
        replace l1 := l1.ext (y1.trans (extN_same z))
        replace l2 := l2.ext (extN_same z)
        have T8 := Tabs.ext t1 z
        have X8 := X7.trans (y1.trans (extN_same z))
        generalize upd (upd G1 lq (.lst [.ref f2])) w1 (.lst ([.ref f0, .ref f1] ++ [.ref f2])) = H8 at *
        clear z hw hlq t1 y1 nf G1 e7 X7 T7
        clear nw
        refine ⟨_, rfl, T8, fun f3 G1 nf y1 t1 l3 => ⟨by show 1 ≤ sizeLine; decide, fun lq hlq => ⟨w1, lq, _, _, rfl, rfl, same_upd hlq _ _ (extN_lst y1 e8), upd_same, by show 3 + 1 ≤ sizeLine; decide, fun w2 hw => ?_⟩⟩⟩
        have z := (same_upd (o := .lst [.ref f3]) hlq).trans (same_upd (o := .lst (([.ref f0, .ref f1] ++ [.ref f2]) ++ [.ref f3])) hw)
        have e9 := upd_same (H := upd G1 lq (.lst [.ref f3])) (a := w2) (o := .lst (([.ref f0, .ref f1] ++ [.ref f2]) ++ [.ref f3]))
        have nw : ∀ b o, H b = some o → (∀ ps, o ≠ .tbl ps) → b ≠ w2 := fun b o e q q2 => by
          have := ((X8.trans y1).trans (extN_same (same_upd (o := .lst [.ref f3]) hlq))) b o e q
          rw [q2, hw] at this
          cases this
        replace l0 := l0.ext (y1.trans (extN_same z))
        replace l1 := l1.ext (y1.trans (extN_same z))
        replace l2 := l2.ext (y1.trans (extN_same z))
        replace l3 := l3.ext (extN_same z)
        have T9 := Tabs.ext t1 z
        have X9 := X8.trans (y1.trans (extN_same z))
        generalize upd (upd G1 lq (.lst [.ref f3])) w2 (.lst (([.ref f0, .ref f1] ++ [.ref f2]) ++ [.ref f3])) = H9 at *
        clear z hw hlq t1 y1 nf G1 e8 X8 T8
        clear nw
        refine ⟨_, rfl, T9, fun f4 G1 nf y1 t1 l4 => ⟨t1, fun f5 G2 nf2 y2 t2 l5 => ⟨by show 2 ≤ sizeLine; decide, fun lq hlq => ⟨w2, lq, _, _, rfl, rfl, same_upd hlq _ _ (extN_lst (y1.trans y2) e9), upd_same, by show 4 + 2 ≤ sizeLine; decide, fun w3 hw => ?_⟩⟩⟩⟩
        have z := (same_upd (o := .lst [.ref f4, .ref f5]) hlq).trans (same_upd (o := .lst ((([.ref f0, .ref f1] ++ [.ref f2]) ++ [.ref f3]) ++ [.ref f4, .ref f5])) hw)
        have e10 := upd_same (H := upd G2 lq (.lst [.ref f4, .ref f5])) (a := w3) (o := .lst ((([.ref f0, .ref f1] ++ [.ref f2]) ++ [.ref f3]) ++ [.ref f4, .ref f5]))
        have nw : ∀ b o, H b = some o → (∀ ps, o ≠ .tbl ps) → b ≠ w3 := fun b o e q q2 => by
          have := ((X9.trans (y1.trans y2)).trans (extN_same (same_upd (o := .lst [.ref f4, .ref f5]) hlq))) b o e q
          rw [q2, hw] at this
          cases this
        replace l0 := l0.ext ((y1.trans y2).trans (extN_same z))
        replace l1 := l1.ext ((y1.trans y2).trans (extN_same z))
        replace l2 := l2.ext ((y1.trans y2).trans (extN_same z))
        replace l3 := l3.ext ((y1.trans y2).trans (extN_same z))
        replace l4 := l4.ext (y2.trans (extN_same z))
        replace l5 := l5.ext (extN_same z)
        have T10 := Tabs.ext t2 z
        have X10 := X9.trans ((y1.trans y2).trans (extN_same z))
        generalize upd (upd G2 lq (.lst [.ref f4, .ref f5])) w3 (.lst ((([.ref f0, .ref f1] ++ [.ref f2]) ++ [.ref f3]) ++ [.ref f4, .ref f5])) = H10 at *
        clear z hw hlq t1 t2 y1 y2 nf nf2 G1 G2 e9 X9 T9
        refine ⟨_, rfl, .inl ⟨rfl, _, SqL.of e10⟩, T10, fun f6 G9 nf6 y9 t9 l6 => ⟨w3, _, _, rfl, rfl, extN_lst y9 e10, by show 6 < sizeLine; decide, ?_⟩⟩
        have e9 := extN_lst y9 e10
        have b10 := but_app (H := G9) (l := w3) (o := .lst (((([.ref f0, .ref f1] ++ [.ref f2]) ++ [.ref f3]) ++ [.ref f4, .ref f5]) ++ [.ref f6]))
        replace l0 := lamAt_but (l0.ext y9) b10 ⟨_, e9⟩
        replace l1 := lamAt_but (l1.ext y9) b10 ⟨_, e9⟩
        replace l2 := lamAt_but (l2.ext y9) b10 ⟨_, e9⟩
        replace l3 := lamAt_but (l3.ext y9) b10 ⟨_, e9⟩
        replace l4 := lamAt_but (l4.ext y9) b10 ⟨_, e9⟩
        replace l5 := lamAt_but (l5.ext y9) b10 ⟨_, e9⟩
        replace l6 := lamAt_but l6 b10 ⟨_, e9⟩
        have T11 := tabs_but t9 b10 ⟨_, e9⟩
        have X11 : ExtN H (upd G9 w3 (.lst (((([.ref f0, .ref f1] ++ [.ref f2]) ++ [.ref f3]) ++ [.ref f4, .ref f5]) ++ [.ref f6]))) := fun b o e z => b10 _ _ (nw b o e z) ((X10.trans y9) b o e z)
        have e11 := upd_same (H := G9) (a := w3) (o := .lst (((([.ref f0, .ref f1] ++ [.ref f2]) ++ [.ref f3]) ++ [.ref f4, .ref f5]) ++ [.ref f6]))
        generalize upd G9 w3 (.lst (((([.ref f0, .ref f1] ++ [.ref f2]) ++ [.ref f3]) ++ [.ref f4, .ref f5]) ++ [.ref f6])) = H11 at *
        clear b10 e9 t9 y9 nf6 G9 X10 T10 e10 nw
        have hp11 := planAt_extN hp X11
        refine ⟨_, rfl, w3, rfl, ⟨_, SqL.of e11⟩, fun D hD => ?_⟩
        refine lc_list (K := K) (a := w3) (g := gName 6) (tt := tYes) (te := fun σB H' Q => ∃ f', σB[6]? = some (some (V.ref f')) ∧ CanU (X__law_refused P w K mg base f c A outer s H E) 6 CN CP CT _ f' H' Q) (vs := [6]) (xs := [.ref f0, .ref f1, .ref f2, .ref f3, .ref f4, .ref f5, .ref f6]) (fun j H' => Same H11 H' ∧ ∃ ys, H' D = some (.lst ys) ∧ ys.length = j ∧ ∀ v ∈ ys, NoAt H' v) ⟨same_upd hD, [], upd_same, rfl, fun v hv => nomatch hv⟩ (fun j H' _ ⟨sT, _⟩ => SqL.of (sT _ _ e11)) ?_ ?_
        · rintro j y H' hy ⟨sT, ys, eD, lnD, noD⟩
          have i2 : j < 7 := (List.getElem?_eq_some_iff.mp hy).1
          have fin : ∀ (H2 : Hp), Same H' H2 → ∀ p, H2 p = none → ∃ acc, upd H2 p (.tup [.str "InvalidNumber"]) D = some (.lst acc) ∧ acc.length < sizeLine ∧ Same H11 (upd (upd H2 p (.tup [.str "InvalidNumber"])) D (.lst (acc ++ [.ref p]))) ∧
              ∃ ys, (upd (upd H2 p (.tup [.str "InvalidNumber"])) D (.lst (acc ++ [.ref p]))) D = some (.lst ys) ∧ ys.length = j + 1 ∧ ∀ v ∈ ys, NoAt (upd (upd H2 p (.tup [.str "InvalidNumber"])) D (.lst (acc ++ [.ref p]))) v := fun H2 s3 p hp => by
            have sp := same_upd (o := .tup [.str "InvalidNumber"]) hp
            have ep := upd_same (H := H2) (a := p) (o := .tup [.str "InvalidNumber"])
            have eD3 := sp _ _ (s3 _ _ eD)
            have up : ∀ t, upd H2 p (.tup [.str "InvalidNumber"]) t = some (.tup [.str "InvalidNumber"]) → upd (upd H2 p (.tup [.str "InvalidNumber"])) D (.lst (ys ++ [.ref p])) t = some (.tup [.str "InvalidNumber"]) := fun t e => by
              rw [upd_ne (ne_of e eD3 fun z => nomatch z)]
              exact e
            refine ⟨ys, eD3, by rw [sizeLine_eq]; omega, same_new hD (sT.trans (s3.trans sp)), _, upd_same, by rw [List.length_append, lnD]; rfl, fun v hv => ?_⟩
            rcases List.mem_append.mp hv with q | q
            · obtain ⟨t, rfl, e⟩ := noD v q
              exact ⟨t, rfl, up t (sp _ _ (s3 _ _ e))⟩
            · rw [List.mem_singleton.mp q]
              exact ⟨p, rfl, up p ep⟩
          have nofew : ∀ {Q : VK}, FewE CT H' cc ss (OutU CN CP CT Q) := fun i _ _ fa => (few_big fa nb).elim
          have e18 : (10 : Int) ^ (18 : Int).toNat = 1000000000000000000 := by decide
          have hp' := hp11.same sT
          have cry : ∀ {r n : Int} {Q : VK}, ¬ ((0 ≤ r ∧ r ≤ cc) ∧ 0 ≤ n ∧ n ≤ 1000000000000000000) → (∀ (H2 : Hp), Same H' H2 → ∀ p, H2 p = none → Q (.ref p) (upd H2 p (.tup [.str "InvalidNumber"]))) → spCarryA C CT CN [.ref p, .int cc, .int r, .int n] H' Q (OutU CN CP CT Q) := fun {r n Q} bad g =>
            ⟨p, ss, cc, r, n, rfl, hp', hl, ho, c0, c1, nofew, fun _ _ H2 s2 => .inl ⟨rfl, g H2 s2⟩, fun _ a b d e => (bad ⟨⟨a, b⟩, d, e⟩).elim⟩
          have c7 : j = 0 ∨ j = 1 ∨ j = 2 ∨ j = 3 ∨ j = 4 ∨ j = 5 ∨ j = 6 := by omega
          rcases c7 with rfl | rfl | rfl | rfl | rfl | rfl | rfl
          · cases hy
            refine ⟨rfl, _, rfl, _, _, _, _, _, (l0.ext (extN_same sT)), lamN_by (N := n__law_refused) (sc := defScope s__law_refused) (by decide +kernel), .inl ⟨rfl, fun _ _ _ _ _ => rfl⟩, fun _ _ _ _ _ _ => rfl, fun A' outer' s' H3 c' hr' => by exact pe_callR (Ez := _) XC.ok (hr'.mono (by decide)) rfl XC.at_ XC.kp (passes_call (takes_of rfl rfl rfl rfl) fun _ _ _ _ h => h) (pa_cons (pv 0) (pa_cons (pv 2) (pa_cons (pe_op op_add (pv 2) pe_int) (pa_cons (pe_op op_sub pe_int pe_int) pa_nil)))), ?_⟩
            exact ⟨_, rfl, _, rfl, _, rfl, _, _, rfl, rfl, _, _, rfl, rfl, cry (by omega) fin⟩
          · cases hy
            refine ⟨rfl, _, rfl, _, _, _, _, _, (l1.ext (extN_same sT)), lamN_by (N := n__law_refused) (sc := defScope s__law_refused) (by decide +kernel), .inr ⟨"_law_a", rfl, fun _ _ _ _ _ _ _ => ⟨_, rfl, rfl⟩⟩, (fun z => nomatch z), fun A' outer' s' H3 c' hr' => by exact pe_callR (Ez := _) XR.ok (hr'.mono (by decide)) rfl XR.at_ XR.kp (passes_call (takes_of rfl rfl rfl rfl) fun _ _ _ _ h => h) (pa_cons (pv 0) (pa_cons (pv 2) (pa_cons (pe_op op_sub pe_int pe_int) (pa_cons pe_int pa_nil)))), ?_⟩
            exact ⟨_, rfl, _, rfl, _, _, rfl, rfl, cry (by omega) fin⟩
          · cases hy
            refine ⟨rfl, _, rfl, _, _, _, _, _, (l2.ext (extN_same sT)), lamN_by (N := n__law_refused) (sc := defScope s__law_refused) (by decide +kernel), .inr ⟨"_law_b", rfl, fun _ _ _ _ _ _ _ => ⟨_, rfl, rfl⟩⟩, (fun z => nomatch z), fun A' outer' s' H3 c' hr' => by exact pe_callR (Ez := _) XR.ok (hr'.mono (by decide)) rfl XR.at_ XR.kp (passes_call (takes_of rfl rfl rfl rfl) fun _ _ _ _ h => h) (pa_cons (pv 0) (pa_cons (pv 2) (pa_cons pe_int (pa_cons (pe_op op_add (pe_op op_pow pe_int pe_int) pe_int) pa_nil)))), ?_⟩
            exact ⟨_, rfl, _, rfl, _, _, rfl, rfl, ⟨by decide, by decide, by decide⟩, _, _, rfl, rfl, cry (by rw [e18]; omega) fin⟩
          · cases hy
            refine ⟨rfl, _, rfl, _, _, _, _, _, (l3.ext (extN_same sT)), lamN_by (N := n__law_refused) (sc := defScope s__law_refused) (by decide +kernel), .inr ⟨"_law_c", rfl, fun _ _ _ _ _ _ _ => ⟨_, rfl, rfl⟩⟩, (fun z => nomatch z), fun A' outer' s' H3 c' hr' => by exact pe_callR (Ez := _) XC.ok (hr'.mono (by decide)) rfl XC.at_ XC.kp (passes_call (takes_of rfl rfl rfl rfl) fun _ _ _ _ h => h) (pa_cons (pv 0) (pa_cons (pv 2) (pa_cons pe_int (pa_cons (pe_op op_sub pe_int pe_int) pa_nil)))), ?_⟩
            exact ⟨_, rfl, _, rfl, _, _, rfl, rfl, cry (by omega) fin⟩
          · cases hy
            refine ⟨rfl, _, rfl, _, _, _, _, _, (l4.ext (extN_same sT)), lamN_by (N := n__law_refused) (sc := defScope s__law_refused) (by decide +kernel), .inr ⟨"_law_e", rfl, fun _ _ _ _ _ _ _ => ⟨_, rfl, rfl⟩⟩, (fun z => nomatch z), fun A' outer' s' H3 c' hr' => by exact pe_callR (Ez := _) XS.ok (hr'.mono (by decide)) rfl XS.at_ XS.kp (passes_call (takes_of rfl rfl rfl rfl) fun _ _ _ _ h => h) (pa_cons (pv 0) (pa_cons (pe_op op_sub pe_int pe_int) pa_nil)), ?_⟩
            exact ⟨_, rfl, _, _, rfl, rfl, p, ss, _, rfl, hp', hl, (fun _ => .inl ⟨rfl, fin _ (Same.refl _)⟩), (fun z => absurd z (by decide)), fun z => absurd z (by decide)⟩
          · cases hy
            refine ⟨rfl, _, rfl, _, _, _, _, _, (l5.ext (extN_same sT)), lamN_by (N := n__law_refused) (sc := defScope s__law_refused) (by decide +kernel), .inr ⟨"_law_f", rfl, fun _ _ _ _ _ _ _ => ⟨_, rfl, rfl⟩⟩, (fun z => nomatch z), fun A' outer' s' H3 c' hr' => by exact pe_callR (Ez := _) XL.ok (hr'.mono (by decide)) rfl XL.at_ XL.kp (passes_call (takes_of rfl rfl rfl rfl) fun _ _ _ _ h => h) (pa_cons (pv 0) (pa_cons (pe_op op_add (pe_op op_pow pe_int pe_int) pe_int) pa_nil)), ?_⟩
            exact ⟨_, rfl, _, _, rfl, rfl, ⟨by decide, by decide, by decide⟩, _, _, rfl, rfl, p, ss, _, rfl, hp', hl, ho, (fun _ => .inl ⟨rfl, fin _ (Same.refl _)⟩), (fun _ z => absurd z (by decide)), fun _ z => absurd z (by decide)⟩
          · cases hy
            refine ⟨rfl, _, rfl, _, _, _, _, _, (l6.ext (extN_same sT)), lamN_by (N := n__law_refused) (sc := defScope s__law_refused) (by decide +kernel), .inr ⟨"_law_g", rfl, fun _ _ _ _ _ _ _ => ⟨_, rfl, rfl⟩⟩, (fun z => nomatch z), fun A' outer' s' H3 c' hr' => by exact pe_callR (Ez := _) XV.ok (hr'.mono (by decide)) rfl XV.at_ XV.kp (passes_call (takes_of rfl rfl rfl rfl) fun _ _ _ _ h => h) (pa_cons (pv 0) (pa_cons (pe_op op_pow pe_int pe_int) pa_nil)), ?_⟩
            exact ⟨_, rfl, _, _, rfl, rfl, ⟨by decide, by decide, by decide⟩, p, ss, rfl, hp', hl, ho, fun H2 s2 => .inl ⟨rfl, fin H2 s2⟩⟩
        · rintro H' ⟨sT, ys, eD, lnD, noD⟩
          refine ⟨by show 1 ≤ sizeLine; decide, fun t ht => ⟨by show 1 ≤ sizeLine; decide, fun lq hlq => ⟨lq, 7, _, rfl, rfl, upd_same, by decide, by decide, by rw [sizeLine_eq]; show 1 * 7 ≤ 16777216; decide, fun qq hqq => ?_⟩⟩⟩
          have s30 := ((same_upd (o := .tup [.str "InvalidNumber"]) ht).trans (same_upd (o := .lst [.ref t]) hlq)).trans (same_upd (o := .lst (List.replicate (7 : Int).toNat [V.ref t]).flatten) hqq)
          have et := ((same_upd (o := .lst [.ref t]) hlq).trans (same_upd (o := .lst (List.replicate (7 : Int).toNat [V.ref t]).flatten) hqq)) _ _ (upd_same : upd H' t (.tup [.str "InvalidNumber"]) t = some (.tup [.str "InvalidNumber"]))
          have gq : (upd (upd (upd H' t (.tup [.str "InvalidNumber"])) lq (.lst [.ref t])) qq (.lst (List.replicate (7 : Int).toNat [V.ref t]).flatten)) qq = some (.lst [.ref t, .ref t, .ref t, .ref t, .ref t, .ref t, .ref t]) := upd_same
          generalize upd (upd (upd H' t (.tup [.str "InvalidNumber"])) lq (.lst [.ref t])) qq (.lst (List.replicate (7 : Int).toNat [V.ref t]).flatten) = H30 at *
          have d1 : DpAll K H30 ys (List.replicate 7 noNum) := by
            have z := dp_no (K := K) (H := H30) (vs := ys) fun v hv => let ⟨t, e1, e2⟩ := noD v hv; ⟨t, e1, s30 _ _ e2⟩
            have l2 : ys.length = 7 := lnD
            rw [l2] at z
            exact z
          have d2 : DpAll K H30 [.ref t, .ref t, .ref t, .ref t, .ref t, .ref t, .ref t] (List.replicate 7 noNum) := dp_no (vs := [.ref t, .ref t, .ref t, .ref t, .ref t, .ref t, .ref t]) fun v hv => by
            have : v = .ref t := by simpa using hv
            exact ⟨t, this, et⟩
          refine ⟨.list (List.replicate 7 noNum), .list (List.replicate 7 noNum), .lst (SqL.of (s30 _ _ eD)) d1, .lst (SqL.of gq) d2, by decide +kernel, by decide +kernel, ?_⟩
          have e7 : PyData.eqv (.list (List.replicate 7 noNum)) (.list (List.replicate 7 noNum)) = true := by decide +kernel
          rw [e7]
          exact k _ (X11.trans (extN_same (sT.trans s30))) (Tabs.ext T11 (sT.trans s30))
end
end Cc

/-! The end of a row whose law makes lambdas: its code's table is tracked, the script is locked. -/
namespace Cc
open PySem PySem.Spec PyProof.Rows L2
open LamX
/-- the table of a def's code, by what the written part tells -/
theorem tab_mk {K : PySem.W.Frag} {x : Str} {f c P : Addr} {oc oC : Value} {od dC : Option Addr} {fd : FuncData} {sl slC : Array (Option Value)} {vC : Array Value} (a : PySem.W.nsIn K mainGlobals x = some (some (.ref f))) (l : K.lookup f = some ⟨oc, od, .func fd, sl⟩) (hc : fd.code = .ref c)
    (lc : K.lookup c = some ⟨oC, dC, .fields vC, slC⟩) (h : vC[11]? = some (.ref P)) : PySem.W.tabIn K x = some (c, P) := by
  unfold PySem.W.tabIn
  rw [a]
  dsimp only
  rw [l]
  dsimp only
  rw [hc]
  dsimp only
  rw [lc]
  dsimp only
  rw [h]
/-- an own error class catches its own -/
theorem exm_own {K : PySem.W.Frag} {C : Addr} (b : PySem.W.subIn K (.ref C) (.type "BaseException") = some true) (i : PySem.W.isClsIn K C = true) (t : PySem.W.typeIn K (.ref C) = some (.type "type")) (s : PySem.W.subIn K (.ref C) (.ref C) = some true) : PySem.W.exmOne K (.ref C) (.ref C) = some true := by
  have i2 : (PySem.W.clsIn K C).isSome = true := i
  unfold PySem.W.exmOne PySem.W.kitCls
  simp only [b, i2, t, s]
  rfl
theorem call_tab {P : Program} {w : World} {K : PySem.W.Frag} {mg mb : Str → Option Value} {k : Nat} {fa a c T : Addr} {fd : FuncData} {x : Str} {sp : Sp} {st : Shared} {us : List Value} {ns : List Int}
    (kin : K.In st.heap) (gl : st.heap.Ns mainGlobals mg) (bl : st.heap.Ns builtinsNs mb) (blb : ∀ x : Str, x ≠ "__name__" → mb x = bootBuiltins x) (lim : st.heap.NoLimit) (ge : st.gens = #[])
    (atT : st.heap.get? T = some { cls := .none, data := .fields #[] }) (kT : K.lookup T = none) (cd : PySem.W.CodeHd st.heap c T)
    (mn : ∃ (bm : Addr) (ob : Obj), mg "__builtins__" = some (.ref bm) ∧ bm ≠ builtinsNs ∧ st.heap.get? bm = some ob ∧ ob.cls = .type "module" ∧ ob.dict = some builtinsNs ∧ ob.data = .plain)
    (atA : st.heap.get? a = some { cls := .type "list", data := .seq us.toArray }) (isI : IntsAre us ns) (len : ns.length ≤ sizeLine) (room : Room k callerA)
    (F : ∀ base : Heap, K.In base → base.Ns mainGlobals mg → TabB base mg c T → FnOk P w K mg base CX0 k fa fd [x] sp) (bind : ∀ (s : Shared) (u : Value), BindsTo s fd ⟨[u], []⟩ [(x, u)])
    (hsp : ∀ H : Hp, H T = some (.tbl #[]) → SqF K H a (ns.map V.int) → sp [.ref a] H (fun v _ => v = .bl true) fun _ _ _ => False) :
    codeAny (model P w) callerA (.call (.ref fa) ⟨[.ref a], []⟩) (fun r s' => r = .ok (.ret (.bool true)) ∧ OldK st.heap s'.heap ∧ s'.os = st.os ∧ AllBare s'.gens) st := by
  have rel := vals_ints isI
  have many := isI.length
  have neq : a ≠ T := fun z => by
    rw [z, atT] at atA
    cases atA
  obtain ⟨H, hT, hO, hS, hok, hA, hK⟩ : ∃ H : Hp, H T = some (.tbl #[]) ∧ (∀ b, H b = none ∨ b = T ∨ ∃ o xs, H b = some (.frz o (.lst xs))) ∧ SqF K H a (ns.map V.int) ∧ HOk P w H st.heap ∧ (∀ b, H b ≠ none → b = a ∨ b = T) ∧ (H a ≠ none → K.lookup a = none) := by
    cases hk : K.lookup a with
    | some o =>
      have e := kin a o hk
      rw [atA] at e
      cases e
      refine ⟨fun b => if b = T then some (.tbl #[]) else none, if_pos rfl, fun b => ?_, .inr (.inr ⟨_, us.toArray, _, hk, rfl, rfl, rfl, by rw [List.size_toArray, many]; exact len, by simpa using rel⟩), fun b u z => ?_, fun b z => ?_, fun z => (z (if_neg neq)).elim⟩
      · by_cases q : b = T
        · exact .inr (.inl q)
        · exact .inl (if_neg q)
      · by_cases q : b = T
        · cases (if_pos q).symm.trans z
          rw [q]
          exact atT
        · cases (if_neg q).symm.trans z
      · by_cases q : b = T
        · exact .inr q
        · exact (z (if_neg q)).elim
    | none =>
      refine ⟨fun b => if b = a then some (.frz { cls := .type "list", data := .seq us.toArray } (.lst (ns.map V.int))) else if b = T then some (.tbl #[]) else none, (if_neg neq.symm).trans (if_pos rfl), fun b => ?_, .inl ⟨_, if_pos rfl⟩, fun b u z => ?_, fun b z => ?_, fun _ => rfl⟩
      · by_cases q : b = a
        · exact .inr (.inr ⟨_, _, if_pos q⟩)
        · by_cases q2 : b = T
          · exact .inr (.inl q2)
          · exact .inl ((if_neg q).trans (if_neg q2))
      · by_cases q : b = a
        · cases (if_pos q).symm.trans z
          rw [q]
          exact ⟨atA, by rw [List.length_map]; exact len, us, _, rel, atA⟩
        · by_cases q2 : b = T
          · cases (if_pos q2).symm.trans ((if_neg q).symm.trans z)
            rw [q2]
            exact atT
          · cases (if_neg q2).symm.trans ((if_neg q).symm.trans z)
      · by_cases q : b = a
        · exact .inl q
        · by_cases q2 : b = T
          · exact .inr q2
          · exact (z ((if_neg q).trans (if_neg q2))).elim
  -- what is no list and no table lies in the ground
  have plain : ∀ {b : Addr} {o : Obj}, st.heap.get? b = some o → (∀ vs n, o.data ≠ .seq vs n) → o.data ≠ .fields #[] → H b = none := fun {b o} e n1 n2 => by
    cases q : H b with
    | none => rfl
    | some u =>
      rcases hA b (by rw [q]; exact fun z => nomatch z) with z | z
      · rw [z, atA] at e
        cases e
        exact (n1 _ _ rfl).elim
      · rw [z, atT] at e
        cases e
        exact (n2 rfl).elim
  have dictB : ∀ {b : Addr} {m : Str → Option Value}, st.heap.Ns b m → (hidT st.heap H).Ns b m := fun {b m} ⟨o, es, ep, e, d, r⟩ => ⟨o, es, ep, hidT_get e (plain e (fun vs n z => by rw [d] at z; cases z) fun z => by rw [d] at z; cases z), d, r⟩
  have kinB : K.In (hidT st.heap H) := fun b o e => hidT_get (kin b o e) (by
    cases q : H b with
    | none => rfl
    | some u =>
      have n0 : H b ≠ none := by rw [q]; exact fun z => nomatch z
      rcases hA b n0 with z | z
      · subst z
        rw [hK n0] at e
        cases e
      · rw [z, kT] at e
        cases e)
  have modB : L2.Mod K mg (hidT st.heap H) := ⟨kinB, dictB gl, ⟨mb, dictB bl, blb⟩, let ⟨mc, h1, h2⟩ := lim; ⟨mc, dictB h1, h2⟩⟩
  have TB : TabB (hidT st.heap H) mg c T := by
    refine ⟨?_, ?_, fun z => ?_⟩
    · obtain ⟨o, vs, file, tf, flags, tg, inF, text, tt, e1, r1, r2, r3, more⟩ := cd
      exact ⟨o, vs, file, tf, flags, tg, inF, text, tt, hidT_get e1 (plain e1 (fun vs n z => by rw [r2] at z; cases z) fun z => by rw [r2] at z; cases z; simp at r3), r1, r2, r3, more⟩
    · obtain ⟨bm, ob, b1, b2, b3, b4, b5, b6⟩ := mn
      refine ⟨bm, ob, b1, b2, fun q => ?_, fun q => ?_, hidT_get b3 (plain b3 (fun vs n z => by rw [b6] at z; cases z) fun z => by rw [b6] at z; cases z), b4, b5, b6⟩
      · obtain ⟨o, es, ep, e, d, _⟩ := gl
        rw [q, e] at b3
        cases b3
        rw [d] at b6
        cases b6
      · rw [q, atT] at b3
        cases b3
        cases b6
    · obtain ⟨o, es, ep, e, d, _⟩ := gl
      rw [z, atT] at e
      cases e
      cases d
  have e0 : Env0 P w K mg (hidT st.heap H) callerA [] st H := ⟨rfl, modB, fun b o e => of_hidT e, Nat.le_of_eq (hidT_size _ _), trivial, fun b hb => absurd (show b ∈ ([] : List Addr) from hb) List.not_mem_nil, hok, .of_eq ge⟩
  refine codeAny_mono ((F _ kinB (dictB gl) TB).run callerA [] st H ⟨[.ref a], []⟩ [.ref a] [.ref a] _ _ room e0 (bind st (.ref a)) (.cons rfl .nil) (hsp H hT hS)) fun r s' h => ?_
  cases r with
  | error e => exact False.elim h
  | ok fl =>
    cases fl with
    | next => exact False.elim h
    | brk => exact False.elim h
    | cont => exact False.elim h
    | ret u =>
      obtain ⟨v, H', os, bare, un, hok2, r2, q⟩ := h
      cases (show v = V.bl true from q)
      cases (show u = Value.bool true from r2)
      have kept : ∀ b o, b ≠ T → st.heap.get? b = some o → s'.heap.get? b = some o := fun b o nb e => by
        rcases hO b with z | z | ⟨ob, ys, z⟩
        · exact un.keep b o e z (fun w => absurd (show b ∈ ([] : List Addr) from w) List.not_mem_nil) (fun z => nomatch z)
        · exact (nb z).elim
        · obtain ⟨e1, _⟩ := hok b _ z
          obtain ⟨e2, _⟩ := hok2 b _ (un.frzs b ob _ z)
          rw [e] at e1
          cases e1
          exact e2
      obtain ⟨more, hm⟩ := un.tbls T #[] hT
      have grown : s'.heap.get? T = some { cls := .none, data := .fields (#[] ++ more) } := hok2 T _ hm
      refine ⟨rfl, ⟨fun b oo e => ?_, fun b oo e => ?_⟩, os, bare⟩
      · by_cases q : b = T
        · subst q
          rw [atT] at e
          cases e
          exact .inr (.inl ⟨(cd.tab atT).isCodeTable, rfl, #[], more, rfl, grown⟩)
        · exact .inl (kept b oo q e)
      · by_cases q : b = T
        · rw [q]
          exact ⟨_, grown⟩
        · exact ⟨oo, kept b oo q e⟩
/-- the row's end -/
theorem walk_tab {l : PySem.W.OpenLaw} {n k : Nat} {q : Program} {loose : List Str} {XP : (Str → Option Value) → Heap → Prop} {YP : World → Heap → Prop} {d : DefRec} {K : Params → PySem.W.Frag} {sp : World → Addr → Sp} {x : Str}
    (hn : l.most = some n) (hn2 : n ≤ sizeLine) (hdf : d.params.defaults = []) (hr : Room k callerA) (hY : ∀ (w : World) (h : Heap), YP w h → (K w.params).In h) (hd : (recsOf q).find? (fun e => e.name == d.name) = some d)
    (F : ∀ (w : World) (mg : Str → Option Value) (fa : Addr) (h : Heap), (K w.params).In h → h.Ns mainGlobals mg → mg d.name = some (.ref fa) → ∃ (fd : FuncData) (c T : Addr), PySem.W.tabIn (K w.params) d.name = some (c, T) ∧ (K w.params).lookup T = none ∧ (∀ (s : Shared) (u : Value), BindsTo s fd ⟨[u], []⟩ [(x, u)]) ∧
      ∀ base : Heap, (K w.params).In base → base.Ns mainGlobals mg → TabB base mg c T → FnOk l.prog w (K w.params) mg base CX0 k fa fd [x] (sp w T))
    (hsp : ∀ (w : World) (T : Addr) (H : Hp) (a : Addr) (ns : List Int), ns.length ≤ n → H T = some (.tbl #[]) → SqF (K w.params) H a (ns.map V.int) → sp w T [.ref a] H (fun v _ => v = .bl true) fun _ _ _ => False) :
    PySem.W.WalkO q loose XP YP l.row.toRowW d [] (fun g us => PySem.call g us) := by
  refine Att.attach_callB hn hdf fun w s₀ s₁ mg mb fa o pm cd doc a vs ns G Y ho hdat hcd hmg hobj hints hlen hbits hg => ?_
  have kin := hY w _ Y
  obtain ⟨fd, c, T, ht, kT, hb, hF⟩ := F w mg fa _ kin G.T.g hmg
  obtain ⟨C, atT⟩ := PySem.W.tab_of G.T kin hd ht
  exact call_tab kin G.T.g G.T.b G.T.builtins G.T.nolimit hg atT kT C G.T.bmain hobj hints (Nat.le_trans hlen hn2) hr hF hb fun H h1 h2 => hsp w T H a ns hlen h1 h2
end Cc

/-! The end of a row in which several defs make lambdas: the tables of all their codes are tracked. -/
namespace Cc
open PySem PySem.Spec PyProof.Rows L2
open LamX
theorem call_tabs {P : Program} {w : World} {K : PySem.W.Frag} {mg mb : Str → Option Value} {k : Nat} {fa a : Addr} {cts : List (Addr × Addr)} {fd : FuncData} {x : Str} {sp : Sp} {st : Shared} {us : List Value} {ns : List Int}
    (kin : K.In st.heap) (gl : st.heap.Ns mainGlobals mg) (bl : st.heap.Ns builtinsNs mb) (blb : ∀ x : Str, x ≠ "__name__" → mb x = bootBuiltins x) (lim : st.heap.NoLimit) (ge : st.gens = #[])
    (atQ : ∀ q ∈ cts, st.heap.get? q.2 = some { cls := .none, data := .fields #[] } ∧ K.lookup q.2 = none ∧ PySem.W.CodeHd st.heap q.1 q.2)
    (mn : ∃ (bm : Addr) (ob : Obj), mg "__builtins__" = some (.ref bm) ∧ bm ≠ builtinsNs ∧ st.heap.get? bm = some ob ∧ ob.cls = .type "module" ∧ ob.dict = some builtinsNs ∧ ob.data = .plain)
    (atA : st.heap.get? a = some { cls := .type "list", data := .seq us.toArray }) (isI : IntsAre us ns) (len : ns.length ≤ sizeLine) (room : Room k callerA)
    (F : ∀ base : Heap, K.In base → base.Ns mainGlobals mg → (∀ q ∈ cts, TabB base mg q.1 q.2) → FnOk P w K mg base CX0 k fa fd [x] sp) (bind : ∀ (s : Shared) (u : Value), BindsTo s fd ⟨[u], []⟩ [(x, u)])
    (hsp : ∀ H : Hp, (∀ q ∈ cts, H q.2 = some (.tbl #[])) → SqF K H a (ns.map V.int) → sp [.ref a] H (fun v _ => v = .bl true) fun _ _ _ => False) :
    codeAny (model P w) callerA (.call (.ref fa) ⟨[.ref a], []⟩) (fun r s' => r = .ok (.ret (.bool true)) ∧ OldK st.heap s'.heap ∧ s'.os = st.os ∧ AllBare s'.gens) st := by
  have rel := vals_ints isI
  have many := isI.length
  obtain ⟨L, hL⟩ : ∃ L : List Addr, L = cts.map (·.2) := ⟨_, rfl⟩
  have atL : ∀ b ∈ L, st.heap.get? b = some { cls := .none, data := .fields #[] } ∧ K.lookup b = none ∧ ∃ c, PySem.W.CodeHd st.heap c b := fun b hb => by
    rw [hL] at hb
    obtain ⟨q, hq, rfl⟩ := List.mem_map.mp hb; obtain ⟨h1, h2, h3⟩ := atQ q hq
    exact ⟨h1, h2, _, h3⟩
  have neq : a ∉ L := fun z => by
    rw [(atL a z).1] at atA
    cases atA
  obtain ⟨H, hT, hO, hS, hok, hA, hK⟩ : ∃ H : Hp, (∀ b ∈ L, H b = some (.tbl #[])) ∧ (∀ b, H b = none ∨ b ∈ L ∨ ∃ o xs, H b = some (.frz o (.lst xs))) ∧ SqF K H a (ns.map V.int) ∧ HOk P w H st.heap ∧ (∀ b, H b ≠ none → b = a ∨ b ∈ L) ∧ (H a ≠ none → K.lookup a = none) := by
    cases hk : K.lookup a with
    | some o =>
      have e := kin a o hk
      rw [atA] at e
      cases e
      refine ⟨fun b => if b ∈ L then some (.tbl #[]) else none, fun b hb => if_pos hb, fun b => ?_, .inr (.inr ⟨_, us.toArray, _, hk, rfl, rfl, rfl, by rw [List.size_toArray, many]; exact len, by simpa using rel⟩), fun b u z => ?_, fun b z => ?_, fun z => (z (if_neg neq)).elim⟩
      · by_cases q : b ∈ L
        · exact .inr (.inl q)
        · exact .inl (if_neg q)
      · by_cases q : b ∈ L
        · cases (if_pos q).symm.trans z
          exact (atL b q).1
        · cases (if_neg q).symm.trans z
      · by_cases q : b ∈ L
        · exact .inr q
        · exact (z (if_neg q)).elim
    | none =>
      refine ⟨fun b => if b = a then some (.frz { cls := .type "list", data := .seq us.toArray } (.lst (ns.map V.int))) else if b ∈ L then some (.tbl #[]) else none, fun b hb => (if_neg (fun z : b = a => neq (z ▸ hb))).trans (if_pos hb), fun b => ?_, .inl ⟨_, if_pos rfl⟩, fun b u z => ?_, fun b z => ?_, fun _ => rfl⟩
      · by_cases q : b = a
        · exact .inr (.inr ⟨_, _, if_pos q⟩)
        · by_cases q2 : b ∈ L
          · exact .inr (.inl q2)
          · exact .inl ((if_neg q).trans (if_neg q2))
      · by_cases q : b = a
        · cases (if_pos q).symm.trans z
          rw [q]
          exact ⟨atA, by rw [List.length_map]; exact len, us, _, rel, atA⟩
        · by_cases q2 : b ∈ L
          · cases (if_pos q2).symm.trans ((if_neg q).symm.trans z)
            exact (atL b q2).1
          · cases (if_neg q2).symm.trans ((if_neg q).symm.trans z)
      · by_cases q : b = a
        · exact .inl q
        · by_cases q2 : b ∈ L
          · exact .inr q2
          · exact (z ((if_neg q).trans (if_neg q2))).elim
  -- what is no list and no table lies in the ground
  have plain : ∀ {b : Addr} {o : Obj}, st.heap.get? b = some o → (∀ vs n, o.data ≠ .seq vs n) → o.data ≠ .fields #[] → H b = none := fun {b o} e n1 n2 => by
    cases q : H b with
    | none => rfl
    | some u =>
      rcases hA b (by rw [q]; exact fun z => nomatch z) with z | z
      · rw [z, atA] at e
        cases e
        exact (n1 _ _ rfl).elim
      · rw [(atL b z).1] at e
        cases e
        exact (n2 rfl).elim
  have dictB : ∀ {b : Addr} {m : Str → Option Value}, st.heap.Ns b m → (hidT st.heap H).Ns b m := fun {b m} ⟨o, es, ep, e, d, r⟩ => ⟨o, es, ep, hidT_get e (plain e (fun vs n z => by rw [d] at z; cases z) fun z => by rw [d] at z; cases z), d, r⟩
  have kinB : K.In (hidT st.heap H) := fun b o e => hidT_get (kin b o e) (by
    cases q : H b with
    | none => rfl
    | some u =>
      have n0 : H b ≠ none := by rw [q]; exact fun z => nomatch z
      rcases hA b n0 with z | z
      · subst z
        rw [hK n0] at e
        cases e
      · rw [(atL b z).2.1] at e
        cases e)
  have modB : L2.Mod K mg (hidT st.heap H) := ⟨kinB, dictB gl, ⟨mb, dictB bl, blb⟩, let ⟨mc, h1, h2⟩ := lim; ⟨mc, dictB h1, h2⟩⟩
  have TB : ∀ q ∈ cts, TabB (hidT st.heap H) mg q.1 q.2 := fun q hq => by
    obtain ⟨atT, _, cd⟩ := atQ q hq
    refine ⟨?_, ?_, fun z => ?_⟩
    · obtain ⟨o, vs, file, tf, flags, tg, inF, text, tt, e1, r1, r2, r3, more⟩ := cd
      exact ⟨o, vs, file, tf, flags, tg, inF, text, tt, hidT_get e1 (plain e1 (fun vs n z => by rw [r2] at z; cases z) fun z => by rw [r2] at z; cases z; simp at r3), r1, r2, r3, more⟩
    · obtain ⟨bm, ob, b1, b2, b3, b4, b5, b6⟩ := mn
      refine ⟨bm, ob, b1, b2, fun q2 => ?_, fun q2 => ?_, hidT_get b3 (plain b3 (fun vs n z => by rw [b6] at z; cases z) fun z => by rw [b6] at z; cases z), b4, b5, b6⟩
      · obtain ⟨o, es, ep, e, d, _⟩ := gl
        rw [q2, e] at b3
        cases b3
        rw [d] at b6
        cases b6
      · rw [q2, atT] at b3
        cases b3
        cases b6
    · obtain ⟨o, es, ep, e, d, _⟩ := gl
      rw [z, atT] at e
      cases e
      cases d
  have e0 : Env0 P w K mg (hidT st.heap H) callerA [] st H := ⟨rfl, modB, fun b o e => of_hidT e, Nat.le_of_eq (hidT_size _ _), trivial, fun b hb => absurd (show b ∈ ([] : List Addr) from hb) List.not_mem_nil, hok, .of_eq ge⟩
  refine codeAny_mono ((F _ kinB (dictB gl) TB).run callerA [] st H ⟨[.ref a], []⟩ [.ref a] [.ref a] _ _ room e0 (bind st (.ref a)) (.cons rfl .nil) (hsp H (fun q hq => hT q.2 (by rw [hL]; exact List.mem_map.mpr ⟨q, hq, rfl⟩)) hS)) fun r s' h => ?_
  cases r with
  | error e => exact False.elim h
  | ok fl =>
    cases fl with
    | next => exact False.elim h
    | brk => exact False.elim h
    | cont => exact False.elim h
    | ret u =>
      obtain ⟨v, H', os, bare, un, hok2, r2, q⟩ := h
      cases (show v = V.bl true from q)
      cases (show u = Value.bool true from r2)
      have kept : ∀ b o, b ∉ L → st.heap.get? b = some o → s'.heap.get? b = some o := fun b o nb e => by
        rcases hO b with z | z | ⟨ob, ys, z⟩
        · exact un.keep b o e z (fun w => absurd (show b ∈ ([] : List Addr) from w) List.not_mem_nil) fun z => nomatch z
        · exact (nb z).elim
        · obtain ⟨e1, _⟩ := hok b _ z
          obtain ⟨e2, _⟩ := hok2 b _ (un.frzs b ob _ z)
          rw [e] at e1
          cases e1
          exact e2
      have grown : ∀ b ∈ L, ∃ more, s'.heap.get? b = some { cls := .none, data := .fields (#[] ++ more) } := fun b hb => by
        obtain ⟨more, hm⟩ := un.tbls b #[] (hT b hb)
        exact ⟨more, hok2 b _ hm⟩
      refine ⟨rfl, ⟨fun b oo e => ?_, fun b oo e => ?_⟩, os, bare⟩
      · by_cases q : b ∈ L
        · obtain ⟨at1, _, c, cd⟩ := atL b q
          obtain ⟨more, gr⟩ := grown b q
          rw [at1] at e
          cases e
          exact .inr (.inl ⟨(cd.tab at1).isCodeTable, rfl, #[], more, rfl, gr⟩)
        · exact .inl (kept b oo q e)
      · by_cases q : b ∈ L
        · exact let ⟨_, gr⟩ := grown b q; ⟨_, gr⟩
        · exact ⟨oo, kept b oo q e⟩
/-- the row's end: xs names the defs whose codes' tables are tracked -/
theorem walk_tabs {l : PySem.W.OpenLaw} {n k : Nat} {q : Program} {loose : List Str} {XP : (Str → Option Value) → Heap → Prop} {YP : World → Heap → Prop} {d : DefRec} {K : Params → PySem.W.Frag} {sp : World → List Addr → Sp} {x : Str} (xs : List Str)
    (hn : l.most = some n) (hn2 : n ≤ sizeLine) (hdf : d.params.defaults = []) (hr : Room k callerA) (hY : ∀ (w : World) (h : Heap), YP w h → (K w.params).In h) (hd : (xs.all fun y => ((recsOf q).find? fun e => e.name == y).isSome) = true)
    (F : ∀ (w : World) (mg : Str → Option Value) (fa : Addr) (h : Heap), (K w.params).In h → h.Ns mainGlobals mg → mg d.name = some (.ref fa) → ∃ (fd : FuncData) (cts : List (Addr × Addr)), (∀ u ∈ cts, ∃ y ∈ xs, PySem.W.tabIn (K w.params) y = some u ∧ (K w.params).lookup u.2 = none) ∧
      (∀ (s : Shared) (u : Value), BindsTo s fd ⟨[u], []⟩ [(x, u)]) ∧ ∀ base : Heap, (K w.params).In base → base.Ns mainGlobals mg → (∀ u ∈ cts, TabB base mg u.1 u.2) → FnOk l.prog w (K w.params) mg base CX0 k fa fd [x] (sp w (cts.map (·.2))))
    (hsp : ∀ (w : World) (Ts : List Addr) (H : Hp) (a : Addr) (ns : List Int), ns.length ≤ n → (∀ T ∈ Ts, H T = some (.tbl #[])) → SqF (K w.params) H a (ns.map V.int) → sp w Ts [.ref a] H (fun v _ => v = .bl true) fun _ _ _ => False) :
    PySem.W.WalkO q loose XP YP l.row.toRowW d [] (fun g us => PySem.call g us) := by
  refine Att.attach_callB hn hdf fun w s₀ s₁ mg mb fa o pm cd doc a vs ns G Y ho hdat hcd hmg hobj hints hlen hbits hg => ?_
  have kin := hY w _ Y
  obtain ⟨fd, cts, ht, hb, hF⟩ := F w mg fa _ kin G.T.g hmg
  refine call_tabs (cts := cts) kin G.T.g G.T.b G.T.builtins G.T.nolimit hg (fun u hu => ?_) G.T.bmain hobj hints (Nat.le_trans hlen hn2) hr hF hb fun H h1 h2 => hsp w _ H a ns hlen (fun T hT => ?_) h2
  · obtain ⟨y, hy, h1, h2⟩ := ht u hu
    obtain ⟨e, he⟩ := Option.isSome_iff_exists.mp (List.all_eq_true.mp hd y hy)
    obtain ⟨C, atT⟩ := PySem.W.tab_of (c := u.1) (P := u.2) G.T kin he h1
    exact ⟨atT, h2, C⟩
  · obtain ⟨u, hu, rfl⟩ := List.mem_map.mp hT
    exact h1 u hu
end Cc

set_option maxHeartbeats 16000000
/-! The law of what is refused. -/
namespace Cc
open PySem PySem.Spec PyProof.Rows L2
open LamX
def spLawTs (K : PySem.W.Frag) (Ts : List Addr) : Sp := fun vs H Q _ => ∃ (a : Addr) (ns : List Int), vs = [.ref a] ∧ SqF K H a (ns.map V.int) ∧ ns.length ≤ 63 ∧ (∀ T ∈ Ts, H T = some (.tbl #[])) ∧ ∀ H', Q (.bl true) H'
abbrev spAlt (C : Addr) : Sp := spAltN C
theorem ok_alt {P : Program} {w : World} {K : PySem.W.Frag} {mg : Str → Option Value} {base : Heap} {C TU pS gS : Addr} {mc : Value} {f fI : Addr} {fd : FuncData} (F : Fun K "alternating" "Plan.alternating" sAlt f fd) (T : Txt K mg C TU pS gS mc) (M : Mk K C fI) (GI : FnR P w K mg base CX0 3 fI (spInit C)) : FnR P w K mg base CX0 5 f (spAltN C) := ok_altN F T M GI
theorem stpT_shaped (ss : List Stp) : SeqAt.shaped (.tuple (ss.map stpD)) = true := by
  obtain ⟨a, b, _⟩ := stpD_lay ss
  have : PyData.depth (.tuple (ss.map stpD)) ≤ 2 := by
    simp [PyData.depth]
    omega
  simp [SeqAt.shaped, PyData.canLay0, a]
  omega
theorem stpT_eqv (ss : List Stp) : PyData.eqv (.tuple (ss.map stpD)) (.tuple (ss.map stpD)) = true := SeqAt.eqv_refl_plain _ (by
  rw [PyData.plain]
  exact (stpD_lay ss).2.2)
/-- what stands in a turn of the law -/
structure Rec1 (K : PySem.W.Frag) (C : Addr) (TT : List (Addr × Str)) (H : Hp) (st l p : Addr) (ws : List V) (ss : List Stp) : Prop where
  d : DrawAt K H st
  tb : Tabs TT H
  el : H l = some (.lst ws)
  g : Steps H ws ss
  pl : PlanAt C H p ss
  n1 : l ≠ st
section
variable {K : PySem.W.Frag} {C : Addr} {TT : List (Addr × Str)} {H H' : Hp} {st l p : Addr} {ws : List V} {ss : List Stp}
theorem Rec1.ext (h : Rec1 K C TT H st l p ws ss) (e : ExtN H H') (t : Tabs TT H') : Rec1 K C TT H' st l p ws ss := ⟨drawAt_extN h.d e, t, extN_lst e h.el, steps_extN h.g e, planAt_extN h.pl e, h.n1⟩
theorem Rec1.same (h : Rec1 K C TT H st l p ws ss) (s : Same H H') : Rec1 K C TT H' st l p ws ss := h.ext (extN_same s) (Tabs.ext h.tb s)
theorem Rec1.but (h : Rec1 K C TT H st l p ws ss) (b : But st H H') (d : DrawAt K H' st) : Rec1 K C TT H' st l p ws ss :=
  ⟨d, tabs_but h.tb b h.d.lst, b _ _ h.n1 h.el, h.g.but b h.d.lst, h.pl.but b h.d.lst, h.n1⟩
end
theorem BadAt.ext {H H' : Hp} {v : V} (h : BadAt H v) (e : ExtN H H') : BadAt H' v := let ⟨t, xs, q, a, b⟩ := h; ⟨t, xs, q, e _ _ a (fun _ z => nomatch z), b⟩
theorem StepAt.ext {H H' : Hp} {v : V} {s : Stp} (h : StepAt H v s) (e : ExtN H H') : StepAt H' v s := let ⟨t, q, a⟩ := h; ⟨t, q, e _ _ a fun _ z => by cases z⟩
abbrev badD (i : Int) : PyData := .tuple [.str "InvalidPlan", .int i]
theorem bad_sh (i : Int) : SeqAt.shaped (badD i) = true ∧ PyData.eqv (badD i) (badD i) = true := by
  have h1 : PyData.strOk "InvalidPlan" = true := by decide +kernel
  exact ⟨by simp [SeqAt.shaped, PyData.canLay0, PyData.canLayAll0, PyData.depth, PyData.depthAll, h1], by simp [PyData.eqv, PyData.eqvAll]⟩
/-- the plan of twelve, and of sixty -/
def ss12 : List Stp := altL [1, 2, 3, 4, 5, 6] ++ [altL [6, 5, 4, 3, 2, 1]].flatten
def ss60 : List Stp := ss12 ++ [ss12, ss12, ss12, ss12].flatten
instance (c : Int) (s : Stp) : Decidable (s.ok c) := by cases s <;> (unfold Stp.ok; infer_instance)
theorem ss12_ok : ∀ s ∈ ss12, s.ok 1000000000000000000 := by decide +kernel
theorem ss60_ok : ∀ s ∈ ss60, s.ok 1000000000000000000 := by decide +kernel
theorem ss12_len : ss12.length = 12 := by decide +kernel
theorem ss60_len : ss60.length = 60 := by decide +kernel
theorem ss60_cut : (ss60.drop 5).take 3 = [.meet false 6, .meet true 6, .meet false 5] := rfl
/-- a plan made in the law -/
theorem mk_plan {C x dx : Addr} {H1 : Hp} {ws : List V} {ss : List Stp} {R : Hp → Prop} {E : XK} (hx : H1 x = none) (hdx : H1 dx = none) (gs : Steps H1 ws ss) (hl : ss.length ≤ 60) (ho : ∀ s ∈ ss, s.ok 1000000000000000000) (k : ∀ H', Same H1 H' → PlanAt C H' x ss → R H') :
    spInit C (.ref x :: ws) (upd (upd H1 dx (.own x)) x (.ins C dx [])) (fun v H2 => v = .non ∧ R H2) E := by
  have s1 := same_made (C := C) hx hdx
  refine ⟨x, dx, ws, ss, rfl, upd_same, gs.same s1, hl, ho, fun H' tp b ex et => ⟨rfl, ?_⟩⟩
  have s2 : Same H1 H' := fun b' o e => b _ _ (ne_of_none e hx) (s1 _ _ e)
  exact k _ s2 ⟨dx, tp, ws, ex, et, gs.same s2⟩
theorem no_join {v : V} : List.lookup ("joined" : Str) [("step_tuple", v)] = none := lk_no (by decide)
def tailS : List Stp := [.meet true 1, .meet false 2, .turn]
theorem tail_D : tailS.map stpD = [.tuple [.str "red", .int 1], .tuple [.str "blue", .int 2], .tuple [.str "turn"]] := rfl
/-- a slice of a plan's steps -/
theorem sl_cut {K : PySem.W.Frag} {H : Hp} {tp : Addr} {us : List V} {lo hi : Option Int} {Q : VK} (e : TupP H tp us) (k : ∀ q H', Same H H' → (∀ H2, Same H' H2 → SqT K H2 q (cutV us lo hi)) → Q (.ref q) H') : rSlA K (.ref tp) lo hi H Q := by
  refine ⟨tp, us, rfl, e.sq, fun ⟨h1, h2⟩ => ?_, fun _ p hp => k p _ (same_upd hp) fun H2 s2 => SqT.of (s2 _ _ upd_same)⟩
  have ec : cutV us lo hi = us := by
    unfold cutV
    rw [h1, h2, List.drop_zero, Nat.sub_zero, List.take_length]
  exact k tp H (Same.refl H) fun H2 s2 => by rw [ec]; exact (e.same s2).sq
theorem sl_cutN {K : PySem.W.Frag} {σ : L2.St} {H : Hp} {tp : Addr} {us : List V} {lo : Option Int} {Q : VK} (e : TupP H tp us) (k : ∀ q H', Same H H' → (∀ H2, Same H' H2 → SqT K H2 q (cutV us lo none)) → Q (.ref q) H') : tNoPart σ H fun u H3 => rSlA K (.ref tp) lo u H3 Q := sl_cut e k
theorem cut_tail (us : List V) {n m : Nat} (h : us.length = n + m) : cutV us (some (n : Int)) none = us.drop n := by
  unfold cutV
  rw [HT.sIx_nat, HT.sIx_none, h, Nat.min_eq_left (by omega)]
  exact List.take_of_length_le (by rw [List.length_drop, h]; omega)
section
variable {P : Program} {w : World} {K : PySem.W.Frag} {mg : Str → Option Value} {base : Heap} {C CT CN CP TU pS gS : Addr} {fdP fdR : FuncData} {mc : Value}
abbrev sLaw : Stmt := top 48
abbrev nLaw : List Str := ["_law_script", "_law_state", "_law_turn", "_law_high", "_law_steps", "_law_plan_here", "_law_at", "_law_turns", "_law_bad", "_law_expected", "_law_found", "_law_more", "_law_sixty", "_law_one"]
abbrev qLam : Str := (envOfC "law" (defScope sLaw) 0 0 .none).qual ++ "<lambda>"
abbrev TTs (Pt Pd : Addr) : List (Addr × Str) := [(Pt, qLam), (Pd, q__law_refused)]
abbrev XL (P : Program) (w : World) (K : PySem.W.Frag) (mg : Str → Option Value) (base : Heap) (f c : Addr) (A : Around) (outer : List Env) (s : Shared) (H : Hp) (E : XK) : Cx := (cxOf CX0 P w K mg base nLaw "law" (defScope sLaw) f (.ref c) A outer s H E).nox
theorem scLaw : FnScope nLaw ["_law_script"] (defScope sLaw) := ⟨rfl, rfl, rfl, by decide +kernel, rfl, by decide +kernel, by decide +kernel⟩
theorem ok_law {f c Pt fI pA gA f__law_start f__law_drawn f__law_random_steps f__law_plan f__law_bad_step f__law_is_step f__law_refused Pd fO pU gU fJ fI2 : Addr} {oc kV doc pm ct : Value} {od an : Option Addr} {osl : Array (Option Value)} {fdS fdO : FuncData}
    (lk : K.lookup f = some ⟨oc, od, .func (PySem.W.fnOf "law" "law" (defArgs sLaw) (defBody sLaw) (defScope sLaw) .none kV doc pm an (.ref c) ct), osl⟩) (hcd : PySem.W.codeIn K (.ref c) "law" = true) (TB : TabB base mg c Pt) (T : Txt K mg C TU pS gS mc)
    (G : Gs P w K mg base C gS fdS) (M : Mk K C fI) (GI : FnR P w K mg base CX0 3 fI (spInit C)) (CA : ClX.CMet K C mc "alternating" pA gA) (GA : FnR P w K mg base CX0 5 gA (spAlt C)) (D__law_start : Dn P w K mg base 1 "_law_start" f__law_start (spStart K)) (D__law_drawn : Dn P w K mg base 1 "_law_drawn" f__law_drawn (spDrawn K)) (D__law_random_steps : Dn P w K mg base 2 "_law_random_steps" f__law_random_steps (spRnd K)) (D__law_plan : Dn P w K mg base 6 "_law_plan" f__law_plan (spLPlan C)) (D__law_bad_step : Dn P w K mg base 2 "_law_bad_step" f__law_bad_step (spBadStep K)) (D__law_is_step : Dn P w K mg base 1 "_law_is_step" f__law_is_step spLIsStep) (D__law_refused : Dn P w K mg base 9 "_law_refused" f__law_refused (spRefused C (TTs Pt Pd)))
    (FO : Fun K "_law_outcome" "_law_outcome" sOutcome fO fdO) (atO : mg "_law_outcome" = some (.ref fO)) (kpO : PySem.W.keepIn K (.ref fO) = true) (bO : Binds K fdO ["_law_work"] []) (NM : Nam3 mg CN CP CT) (KI : Kin3 K CN CP CT) (XI : Xt3 K CP CT) (MJ : Meth K C "joined" fJ) (GJA : FnR P w K mg base (L2.CX P w) 5 fJ (spJoinA C CP)) (MI : Mk K C fI2) (GIA : FnR P w K mg base (L2.CX P w) 3 fI2 (spInitA C CP)) (PU : PropOf K C "is_turning" pU gU) (GTu : FnOk P w K mg base CX0 1 gU fdP ["self"] (spTurning C)) (bU : Binds K fdP ["self"] []) (hne : Pd ≠ Pt) :
    FnOk P w K mg base CX0 11 f (PySem.W.fnOf "law" "law" (defArgs sLaw) (defBody sLaw) (defScope sLaw) .none kV doc pm an (.ref c) ct) ["_law_script"] (spLawTs K [Pt, Pd]) := by
  have B := T.b
  refine fn_of lk hcd scLaw (fun vs H Q E h => ?_) fun A outer s H vs Q E hr h => ?_
  · obtain ⟨a, ns, rfl, _⟩ := h
    rfl
  · obtain ⟨a, ns, rfl, hF, hlen, hPt, k⟩ := h
    suffices h : ∃ t, PSs (XL P w K mg base f c A outer s H E) (defBody sLaw) t ∧ t { nx := fun _ H' => Q .non H', rt := Q } (start nLaw [.ref a]) H from let ⟨t, h1, h2⟩ := h; ⟨t, h1.nox, h2⟩
    have hm : (Pt, (XL P w K mg base f c A outer s H E).env.qual ++ "<lambda>") ∈ (TTs Pt Pd) := List.mem_cons_self
    have hu : ∀ p ∈ (TTs Pt Pd), p.1 = Pt → p.2 = (XL P w K mg base f c A outer s H E).env.qual ++ "<lambda>" := fun p hp e => (List.mem_cons.mp hp).elim (fun z => by rw [z]; rfl) fun z => by rw [List.mem_singleton.mp z] at e; exact absurd e hne
    refine ⟨_, pss_cons (ps_set (i := 1) scLaw.nd rfl (.inl rfl) (pe_callR D__law_start.ok (hr.mono (by decide)) rfl D__law_start.at_ D__law_start.kp pass0 (pa_cons (pv 0) pa_nil)))
      (pss_cons (ps_if (pt_cmpR (op_neD hr.units) (pe_tup (pa_cons (ClX.pe_cval (pe_glob (v := .ref C) rfl T.gP rfl)) (pa_cons (ClX.pe_cval (pe_glob (v := .ref C) rfl T.gP rfl)) pa_nil))) (pe_tup (pa_cons pe_int (pa_cons (pe_op op_pow pe_int pe_int) pa_nil))) (nomark _))
        (pss_one (ps_ret pe_bl)) pss_nil)
      (pss_cons (ps_for PassesOwn.never rfl (pi_range1 rfl T.b.range (pa_cons pe_int pa_nil)) (pg_name (i := 2) scLaw.nd rfl (.inl rfl))
        (pss_cons (ps_set (i := 3) scLaw.nd rfl (.inl rfl) (pe_ix ix_list (pe_lst (pa_cons pe_int (pa_cons (pe_op op_pow pe_int pe_int) pa_nil))) (pe_callR D__law_drawn.ok (hr.mono (by decide)) rfl D__law_drawn.at_ D__law_drawn.kp pass0 (pa_cons (pv 1) (pa_cons pe_int pa_nil))) (fun _ _ => rfl)))
        (pss_cons (ps_set (i := 4) scLaw.nd rfl (.inl rfl) (pe_callR D__law_random_steps.ok (hr.mono (by decide)) rfl D__law_random_steps.at_ D__law_random_steps.kp pass0 (pa_cons (pv 1) (pa_cons pe_int (pa_cons (pv 3) pa_nil)))))
        (pss_cons (ps_par (i := 5) (j := 6) rfl scLaw.nd rfl rfl (by decide) rfl rfl (pa_cons (pe_callR D__law_plan.ok (hr.mono (by decide)) rfl D__law_plan.at_ D__law_plan.kp pass0 (pa_cons (pv 4) pa_nil)) (pa_cons (pe_callR D__law_drawn.ok (hr.mono (by decide)) rfl D__law_drawn.at_ D__law_drawn.kp pass0 (pa_cons (pv 1) (pa_cons (pe_op op_add (pe_callB call_len_seq (by rfl) T.b.len PySem.boot_len (pa_cons (pv 4) pa_nil)) pe_int) pa_nil))) pa_nil)) (by rfl))
        (pss_cons (ps_set (i := 7) scLaw.nd rfl (.inl rfl) (pe_callB call_len_seq (by rfl) T.b.len PySem.boot_len (pa_cons (pe_lc (own := [("_law_one", 13)]) (g := gName 13) (tt := (tTest (tOp (rEqD K) (tVar 13) (tTup (tCons (tC (.str "turn")) tNil))))) (te := (tVar 13)) rfl scLaw.nd (pi_list (pv 4)) (blkOk_by (N := nLaw) (sc := defScope sLaw) (by decide +kernel)) (fun _ _ _ _ _ => pg_name (i := 13) scLaw.nd rfl (.inl rfl)) (fun _ _ _ _ _ => by exact (pts_one (pt_cmpR (op_eqD hr.units) (pv 13) (pe_tup (pa_cons pe_str pa_nil)) (nomark _)))) (fun _ _ _ _ _ => by exact (pv 13))) pa_nil)))
        (C8.pss_cut (ps_if (PW.pt (pw_or (pt_cmpR (op_neD hr.units) (pe_prop (pv 5) T.cl T.pr G.ok (hr.mono (by decide)) G.b .nil pass0 rfl) (pe_callTy call_tuple_of (by rfl) T.b.tuple (by decide +kernel) (pa_cons (pv 4) pa_nil)) (nomark _)) (pw_or1 (pt_cmpR op_ne (pe_prop (pv 5) T.cl PU GTu (hr.mono (by decide)) bU .nil pass0 rfl) (pe_cmpR op_eq (pe_op op_mod (pv 7) pe_int) pe_int (nomark _)) (nomark _)))))
          (pss_one (ps_ret pe_bl)) pss_nil)
        (pss_cons (ps_set (i := 8) scLaw.nd rfl (.inr rfl) (pe_callR D__law_bad_step.ok (hr.mono (by decide)) rfl D__law_bad_step.at_ D__law_bad_step.kp pass0 (pa_cons (pv 1) pa_nil)))
        (C8.pss_cut (ps_set (i := 9) scLaw.nd rfl (.inl rfl) (pe_ifExp (pt_val (pe_callR D__law_is_step.ok (hr.mono (by decide)) rfl D__law_is_step.at_ D__law_is_step.kp pass0 (pa_cons (pv 8) pa_nil))) pe_non (pe_tup (pa_cons pe_str (pa_cons pe_int pa_nil)))))
        (C8.pss_cut (ps_set (i := 10) scLaw.nd rfl (.inl rfl) (pe_outU (k := 5) FO atO kpO bO NM KI XI (hr.mono (by decide)) (by rfl) (pe_lam0 TB rfl hm hu rfl rfl fun ok => (lamN_by (N := nLaw) (sc := defScope sLaw) (by decide +kernel)).has ok)))
        (C8.pss_cut (ps_if (PW.pt (pw_or (PW.pt (pw_and (pt_cmpR op_notN (pv 9) pe_non (nomark _)) (pw_and1 (pt_cmpR (op_neD hr.units) (pv 10) (pv 9) (nomark _))))) (pw_or1 (PW.pt (pw_and (pt_cmpR op_isN (pv 9) pe_non (nomark _)) (pw_and1 (pt_cmpR (op_neD hr.units) (pe_prop (pv 10) T.cl T.pr G.ok (hr.mono (by decide)) G.b .nil pass0 rfl) (pe_tup (pa_cons (pv 8) pa_nil)) (nomark _))))))))
          (pss_one (ps_ret pe_bl)) pss_nil)
        (pss_cons (ps_set (i := 11) scLaw.nd rfl (.inl rfl) (pe_methR (pv 5) T.cl MJ (fnr_calm GJA) (hr.mono (by decide)) pass0 (pa_cons (StX.pe_makeR M GI (hr.mono (by decide)) rfl T.gP pass0 (pa_cons (pe_tup (pa_cons pe_str (pa_cons pe_int pa_nil))) pa_nil)) (pa_cons (StX.pe_makeR M GI (hr.mono (by decide)) rfl T.gP pass0 (pa_cons (pe_tup (pa_cons pe_str (pa_cons pe_int pa_nil))) (pa_cons (pe_tup (pa_cons pe_str pa_nil)) pa_nil))) pa_nil))))
        (C8.pss_cut (ps_if (pt_cmpR (op_neD hr.units) (pe_slice sl_tupA (pe_prop (pv 11) T.cl T.pr G.ok (hr.mono (by decide)) G.b .nil pass0 rfl) (po_some (pe_callB call_len_seq (by rfl) T.b.len PySem.boot_len (pa_cons (pv 4) pa_nil))) po_none) (pe_tup (pa_cons (pe_tup (pa_cons pe_str (pa_cons pe_int pa_nil))) (pa_cons (pe_tup (pa_cons pe_str (pa_cons pe_int pa_nil))) (pa_cons (pe_tup (pa_cons pe_str pa_nil)) pa_nil)))) (nomark _))
          (pss_one (ps_ret pe_bl)) pss_nil)
        (pss_cons (ps_set (i := 12) scLaw.nd rfl (.inr rfl) (pe_methR (ClX.pe_cmeth (pe_glob (v := .ref C) rfl T.gP rfl) T.rd CA GA (hr.mono (by decide)) pass0 (pa_cons pe_int (pa_cons pe_int (pa_cons pe_int (pa_cons pe_int (pa_cons pe_int (pa_cons pe_int pa_nil))))))) T.cl MJ (fnr_calm GJA) (hr.mono (by decide)) pass0 (pa_cons (ClX.pe_cmeth (pe_glob (v := .ref C) rfl T.gP rfl) T.rd CA GA (hr.mono (by decide)) pass0 (pa_cons pe_int (pa_cons pe_int (pa_cons pe_int (pa_cons pe_int (pa_cons pe_int (pa_cons pe_int pa_nil))))))) pa_nil)))
        (pss_cons (ps_set (i := 12) scLaw.nd rfl (.inr rfl) (pe_methR (pv 12) T.cl MJ (fnr_calm GJA) (hr.mono (by decide)) pass0 (pa_cons (pv 12) (pa_cons (pv 12) (pa_cons (pv 12) (pa_cons (pv 12) pa_nil))))))
        (C8.pss_cut (ps_if (PW.pt (pw_or (pt_cmpR op_ne (pe_callB call_len (by rfl) T.b.len PySem.boot_len (pa_cons (pe_prop (pv 12) T.cl T.pr G.ok (hr.mono (by decide)) G.b .nil pass0 rfl) pa_nil)) pe_int (nomark _)) (pw_or1 (pt_cmpR (op_neD hr.units) (pe_outU (k := 5) FO atO kpO bO NM KI XI (hr.mono (by decide)) (by rfl) (pe_lam0 TB rfl hm hu rfl rfl fun ok => (lamN_by (N := nLaw) (sc := defScope sLaw) (by decide +kernel)).has ok)) (pe_tup (pa_cons pe_str (pa_cons pe_int pa_nil))) (nomark _)))))
          (pss_one (ps_ret pe_bl)) pss_nil)
        (pss_cons (ps_if (pt_cmpR (op_neD hr.units) (pe_slice sl_tupA (pe_prop (pv 12) T.cl T.pr G.ok (hr.mono (by decide)) G.b .nil pass0 rfl) (po_some pe_int) (po_some pe_int)) (pe_tup (pa_cons (pe_tup (pa_cons pe_str (pa_cons pe_int pa_nil))) (pa_cons (pe_tup (pa_cons pe_str (pa_cons pe_int pa_nil))) (pa_cons (pe_tup (pa_cons pe_str (pa_cons pe_int pa_nil))) pa_nil)))) (nomark _))
          (pss_one (ps_ret pe_bl)) pss_nil)
        (pss_one (ps_if (pt_not (pt_val (pe_callR D__law_refused.ok (hr.mono (by decide)) rfl D__law_refused.at_ D__law_refused.kp pass0 (pa_cons (pv 5) (pa_cons (pv 4) (pa_cons (pe_callR D__law_drawn.ok (hr.mono (by decide)) rfl D__law_drawn.at_ D__law_drawn.kp pass0 (pa_cons (pv 1) (pa_cons (pe_op op_add (pv 3) pe_int) pa_nil))) pa_nil))))))
          (pss_one (ps_ret pe_bl)) pss_nil))))))))))))))))))
      (pss_one (ps_ret pe_bl)))), ?_⟩
    have tb0 : Tabs (TTs Pt Pd) H := fun p hp => TabS.nil (by rcases List.mem_cons.mp hp with z | z; (rw [z]; exact hPt _ (List.mem_cons_self)); (rw [List.mem_singleton.mp z]; exact hPt _ (List.mem_cons_of_mem _ (List.mem_cons_self))))
    refine ⟨_, rfl, a, ns, rfl, hF, hlen, fun st H1 _ s1 D1 => ?_⟩
    have T1 := Tabs.ext tb0 s1
    obtain ⟨u1, cv1⟩ := T.cs
    obtain ⟨u2, cv2⟩ := T.cc
    have e18 : (10 : Int) ^ (18 : Int).toNat = 1000000000000000000 := by decide
    refine ⟨C, _, _, _, rfl, T.rd, cv1, C, _, _, _, rfl, T.rd, cv2, by show 2 ≤ sizeLine; decide, fun q1 hq1 => ?_⟩
    refine ⟨_, _, rfl, rfl, ⟨by decide, by decide, by decide⟩, by show 2 ≤ sizeLine; decide, fun q2 hq2 => ?_⟩
    have s2 := (same_upd (o := .tup [.int 60, .int 1000000000000000000]) hq1).trans (same_upd (o := .tup [.int 60, .int ((10 : Int) ^ (18 : Int).toNat)]) hq2)
    refine ⟨.tuple [.int 60, .int 1000000000000000000], .tuple [.int 60, .int ((10 : Int) ^ (18 : Int).toNat)], .tup (SqT.of (same_upd hq2 _ _ upd_same)) (.cons (.int _) (.cons (.int _) .nil)), .tup (SqT.of upd_same) (.cons (.int _) (.cons (.int _) .nil)), shaped_ints _ _, shaped_ints _ _, _, rfl, ifF (by decide +kernel) ?_⟩
    have D2 := D1.same s2
    have T2 := Tabs.ext T1 s2
    generalize upd (upd H1 q1 (.tup [.int 60, .int 1000000000000000000])) q2 (.tup [.int 60, .int ((10 : Int) ^ (18 : Int).toNat)]) = H2 at *
    clear s2 hq1 hq2 D1 T1 s1
    refine ⟨5, rfl, by decide, by decide, for_range (lo := 0) (n := 5) (fun i σ H' => ∃ (x2 x3 x4 x5 x6 x7 x8 x9 x10 x11 x12 x13 : Option V), σ = [some (.ref a), some (.ref st), x2, x3, x4, x5, x6, x7, x8, x9, x10, x11, x12, x13] ∧ DrawAt K H' st ∧ Tabs (TTs Pt Pd) H')
      ⟨none, none, none, none, none, none, none, none, none, none, none, none, rfl, D2, T2⟩ ?_ ?_⟩
    · clear D2 T2
      rintro i0 σ H2 hi0 ⟨x2, x3, x4, x5, x6, x7, x8, x9, x10, x11, x12, x13, rfl, D2, T2⟩
      refine ⟨_, _, rfl, rfl, ⟨by decide, by decide, by decide⟩, by show 2 ≤ sizeLine; decide, fun l3 hl3 => ?_⟩
      have s3 := same_upd (o := .lst [.int 9, .int ((10 : Int) ^ (18 : Int).toNat)]) hl3
      have e3 := upd_same (H := H2) (a := l3) (o := .lst [.int 9, .int ((10 : Int) ^ (18 : Int).toNat)])
      have n3 : l3 ≠ st := let ⟨_, e⟩ := D2.lst; (ne_of_none e hl3).symm
      refine ⟨_, rfl, st, 2, rfl, D2.same s3, by decide, by decide, fun r H4 r0 r1 D4 b4 => ?_⟩
      obtain ⟨hi, ehi, h0, h1⟩ : ∃ hi : Int, atI [V.int 9, V.int ((10 : Int) ^ (18 : Int).toNat)] r = some (V.int hi) ∧ 0 ≤ hi ∧ hi ≤ 1000000000000000000 := by
        have : r = ((0 : Nat) : Int) ∨ r = ((1 : Nat) : Int) := by omega
        rcases this with q | q
        · exact ⟨_, at_of q rfl, by decide, by decide⟩
        · exact ⟨_, at_of q rfl, by rw [e18]; decide, by rw [e18]; decide⟩
      refine ⟨l3, _, _, _, rfl, rfl, SqL.of (b4 _ _ n3 e3), ehi, ?_⟩
      have T4 := tabs_but T2 ((But.of s3).trans b4) D2.lst
      clear s3 e3 n3 ehi hl3
      refine ⟨_, rfl, _, rfl, st, 8, hi, rfl, D4, by decide, by decide, h0, h1, fun l ws ss H5 hl4 hl5 g5 hn ho D5 b5 => ?_⟩
      have T5 := tabs_but T4 b5 D4.lst
      have nls : l ≠ st := fun z => by
        obtain ⟨_, e⟩ := D4.lst
        rw [z, e] at hl4
        cases hl4
      have o18 : ∀ s ∈ ss, s.ok 1000000000000000000 := fun s hs => (ho s hs).mono h1
      refine ⟨_, rfl, l, ws, ss, rfl, hl5, g5, by omega, o18, fun p H6 s6 pl => ?_⟩
      have L6 : Rec1 K C (TTs Pt Pd) H6 st l p ws ss := ⟨D5.same s6, Tabs.ext T5 s6, s6 _ _ hl5, g5.same s6, pl, nls⟩
      have lw : ws.length = ss.length := g5.length
      clear D4 b4 T4 hl4 hl5 g5 D5 b5 T5 pl s6 D2 T2
      refine ⟨_, rfl, _, rfl, l, _, rfl, .inl (SqL.of L6.el), _, _, rfl, rfl, st, _, rfl, L6.d, by omega, by omega, fun at7 H7 _ _ D7 b7 => ⟨_, _, rfl, ?_⟩⟩
      have L7 := L6.but b7 D7
      clear D7 b7 L6
      -- the turns
      refine ⟨_, rfl, l, rfl, ⟨_, SqL.of L7.el⟩, fun Dc hDc => ?_⟩
      refine lc_list (K := K) (a := l) (xs := ws) (fun i H' => Same H7 H' ∧ ∃ vs, H' Dc = some (.lst vs) ∧ vs.length = turnsF (ss.take i)) ⟨same_upd hDc, [], upd_same, rfl⟩ (fun i H' _ ⟨sx, _⟩ => SqL.of (sx _ _ L7.el)) ?_ ?_
      · rintro j x Hx hx ⟨sx, vs, ex, nx⟩
        obtain ⟨sp, hsp, t, rfl, ht0⟩ := L7.g.get hx
        have ht := sx _ _ ht0
        have jl : j < ss.length := (List.getElem?_eq_some_iff.mp hsp).1
        have et : turnsF (ss.take (j + 1)) = turnsF (ss.take j) + (match sp with | .turn => 1 | .meet _ _ => 0) := by
          rw [take_more hsp]
          unfold turnsF
          rw [List.filter_append, List.length_append]
          cases sp <;> rfl
        have tl : turnsF (ss.take j) ≤ j := by
          unfold turnsF
          exact Nat.le_trans (List.length_filter_le _ _) (by rw [List.length_take]; omega)
        refine ⟨rfl, _, rfl, by show 1 ≤ sizeLine; decide, fun pt hpt => ?_⟩
        have sy : Same Hx (upd Hx pt (.tup [.str "turn"])) := same_upd hpt
        cases sp with
        | turn =>
          refine ⟨.tuple [.str "turn"], .tuple [.str "turn"], .tup (SqT.of (sy _ _ ht)) (.cons (.str _) .nil), .tup (SqT.of upd_same) (.cons (.str _) .nil), by decide +kernel, by decide +kernel, _, rfl, ?_⟩
          refine ifT eqv_turn ⟨_, rfl, vs, sy _ _ ex, small_line (n := 2000) (by rw [nx]; omega) (by omega), same_new hDc (sx.trans sy), _, upd_same, ?_⟩
          rw [List.length_append, nx, et]
          rfl
        | meet bb nn =>
          refine ⟨.tuple [.str (roomS bb), .int nn], .tuple [.str "turn"], .tup (SqT.of (sy _ _ ht)) (.cons (.str _) (.cons (.int _) .nil)), .tup (SqT.of upd_same) (.cons (.str _) .nil), shaped_meet bb nn, by decide +kernel, _, rfl, ?_⟩
          refine ifF (eqv_meet bb nn) ⟨sx.trans sy, vs, sy _ _ ex, ?_⟩
          rw [nx, et]
          rfl
      rintro Hx ⟨sx, vs, ex, nx⟩
      rw [lw, List.take_length] at nx
      have L8 := L7.same sx
      clear L7 sx hDc
      refine ⟨Dc, vs, rfl, .inl (SqL.of ex), ?_⟩
      refine ⟨fun σ' H' => ∃ (x7 : Option V), σ' = [some (.ref a), some (.ref st), some (.int (0 + (i0 : Int))), some (.int hi), some (.ref l), some (.ref p), some (.int at7), x7, x8, x9, x10, x11, x12, x13] ∧ Rec1 K C (TTs Pt Pd) H' st l p ws ss, ?_, ?_⟩
      · obtain ⟨dx, tp, us, ep, etp, gp⟩ := id L8.pl
        refine ⟨_, rfl, p, dx, _, rfl, ep, p, dx, _, _, rfl, ep, lk_self, _, rfl, l, _, rfl, .inl ⟨SqL.of L8.el, fun tq htq => ?_⟩⟩
        have s9 := same_upd (o := .tup ws) htq
        refine ⟨.tuple (ss.map stpD), .tuple (ss.map stpD), .tup (etp.same s9).sq (stpD_dp (gp.same s9)), .tup (SqT.of upd_same) (stpD_dp (L8.g.same s9)), stpT_shaped ss, stpT_shaped ss, _, rfl, ?_⟩
        refine ifF (by rw [stpT_eqv ss]; rfl) ?_
        have L9 := L8.same s9
        have hl60 : ss.length ≤ 1000 := by omega
        clear L8 s9 htq ep etp gp
        obtain ⟨dx, tp, us, ep, etp, gp⟩ := id L9.pl
        refine ⟨_, rfl, p, dx, _, rfl, ep, p, ss, rfl, L9.pl, hl60, _, rfl, _, _, rfl, rfl, (by show (0 : Int) < 2; decide), rfl, rfl, _, rfl, ifF ?_ ⟨_, rfl, L9⟩⟩
        rw [nx]
        by_cases hz : turnsF ss % 2 = 1
        · rw [decide_eq_true hz, decide_eq_true (show V.int ((turnsF ss : Nat) % 2 : Int) = V.int 1 from congrArg V.int (by omega))]
          rfl
        · rw [decide_eq_false hz, decide_eq_false (show ¬ V.int ((turnsF ss : Nat) % 2 : Int) = V.int 1 from by intro z; injection z with z; omega)]
          rfl
      · clear L8
        rintro σ H9 ⟨x7, rfl, L9⟩
        -- a step that may be wrong
        refine ⟨_, rfl, st, rfl, L9.d, fun bv H10 D10 b10 hbv => ?_⟩
        have L10 := L9.but b10 D10
        clear D10 b10 L9
        refine ⟨fun σ' H' => ∃ (v9 : V), σ' = [some (.ref a), some (.ref st), some (.int (0 + (i0 : Int))), some (.int hi), some (.ref l), some (.ref p), some (.int at7), x7, some bv, some v9, x10, x11, x12, x13] ∧ Rec1 K C (TTs Pt Pd) H' st l p ws ss ∧
          ((v9 = .non ∧ ∃ s, StepAt H' bv s ∧ s.ok 1000000000000000000) ∨ (BadAt H' bv ∧ ∃ q, v9 = .ref q ∧ H' q = some (.tup [.str "InvalidPlan", .int 0]))), ?_, ?_⟩
        · rcases hbv with ⟨s, hs, os⟩ | hb
          · exact ⟨_, rfl, bv, true, rfl, .inl ⟨rfl, s, hs, os⟩, fun H11 s11 => ⟨_, rfl, iteT ⟨_, rfl, L10.same s11, .inl ⟨rfl, s, hs.same s11, os⟩⟩⟩⟩
          · refine ⟨_, rfl, bv, false, rfl, .inr ⟨rfl, hb⟩, fun H11 s11 => ⟨_, rfl, iteF ⟨by show 2 ≤ sizeLine; decide, fun q hq => ?_⟩⟩⟩
            have s12 := s11.trans (same_upd (o := .tup [.str "InvalidPlan", .int 0]) hq)
            exact ⟨_, rfl, L10.same s12, .inr ⟨hb.same s12, q, rfl, upd_same⟩⟩
        clear L10 hbv
        rintro σ H11 ⟨v9, rfl, L11, h9⟩
        refine ⟨fun σ' H' => ∃ (v10 : V), σ' = [some (.ref a), some (.ref st), some (.int (0 + (i0 : Int))), some (.int hi), some (.ref l), some (.ref p), some (.int at7), x7, some bv, some v9, some v10, x11, x12, x13] ∧ Rec1 K C (TTs Pt Pd) H' st l p ws ss ∧
          ((v9 = .non ∧ ∃ s f, StepAt H' bv s ∧ v10 = .ref f ∧ PlanAt C H' f [s]) ∨ (∃ q f, v9 = .ref q ∧ H' q = some (.tup [.str "InvalidPlan", .int 0]) ∧ v10 = .ref f ∧ H' f = some (.tup [.str "InvalidPlan", .int 0]))), ?_, ?_⟩
        · refine ⟨L11.tb, fun fl H12 nfl y12 T12 lam => ⟨fl, rfl, _, _, _, _, _, lam, lamN_by (N := nLaw) (sc := defScope sLaw) (by decide +kernel), .inl ⟨rfl, fun _ _ _ _ _ => rfl⟩, fun _ _ _ _ _ _ => rfl, fun A' outer' s' H3 c' hr' => by exact StX.pe_makeR MI GIA (hr'.mono (by decide)) rfl T.gP (passes_call (takes_of rfl rfl rfl rfl) fun _ _ _ _ h => h) (pa_cons (pv 8) pa_nil), ?_⟩⟩
          have L12 := L11.ext y12 T12
          refine ⟨_, rfl, fun x dx hx hdx hxd => ?_⟩
          have s13 := same_made (C := C) hx hdx
          rcases h9 with ⟨rfl, s, hs, os⟩ | ⟨hb, q, rfl, hq⟩
          · refine .inl ⟨x, dx, [bv], [s], rfl, upd_same, .cons ((hs.ext y12).same s13) .nil, by show 1 ≤ 60; decide, fun z hz => by rw [List.mem_singleton.mp hz]; exact os, fun H14 tp b14 ex et => ⟨rfl, ?_⟩⟩
            have s14 : Same H12 H14 := fun b o e => b14 _ _ (ne_of_none e hx) (s13 _ _ e)
            exact ⟨_, rfl, L12.same s14, .inl ⟨rfl, s, x, (hs.ext y12).same s14, rfl, dx, tp, [bv], ex, et, .cons ((hs.ext y12).same s14) .nil⟩⟩
          · refine .inr ⟨x, dx, [bv], 0, rfl, upd_same, by show 1 ≤ 10000; decide, by show 0 < 1; decide, by decide, fun j hj => absurd hj (by omega), .inr ⟨bv, rfl, (hb.ext y12).same s13⟩, fun H14 d s14 hd => .inr (.inl ⟨rfl, d, _, _, rfl, upd_same, lkZ, fun t ht => ?_⟩)⟩
            have s15 := (s13.trans s14).trans ((same_upd (o := .xd [("index", .int 0)]) hd).trans (same_upd (o := .tup [.str "InvalidPlan", .int 0]) ht))
            exact ⟨_, rfl, L12.same s15, .inr ⟨q, t, rfl, s15 _ _ (y12 _ _ hq fun _ z => nomatch z), rfl, upd_same⟩⟩
        clear L11 h9
        rintro σ H12 ⟨v10, rfl, L12, h10⟩
        refine ⟨fun σ' H' => ∃ (x8 x9 x10 : Option V), σ' = [some (.ref a), some (.ref st), some (.int (0 + (i0 : Int))), some (.int hi), some (.ref l), some (.ref p), some (.int at7), x7, x8, x9, x10, x11, x12, x13] ∧ Rec1 K C (TTs Pt Pd) H' st l p ws ss, ?_, ?_⟩
        · rcases h10 with ⟨rfl, s, f, hs, rfl, hf⟩ | ⟨q, f, rfl, hq, rfl, hf⟩
          · obtain ⟨dx, tp, us, ef, etp, gp⟩ := id hf
            refine ⟨_, rfl, rfl, _, rfl, iteF ⟨_, rfl, rfl, _, rfl, iteT ⟨_, rfl, f, dx, _, rfl, ef, f, dx, _, _, rfl, ef, lk_self, _, rfl, by show 1 ≤ sizeLine; decide, fun q hq => ?_⟩⟩⟩
            have s13 := same_upd (o := .tup [bv]) hq
            refine ⟨.tuple ([s].map stpD), .tuple ([s].map stpD), .tup (etp.same s13).sq (stpD_dp (gp.same s13)), .tup (SqT.of upd_same) (stpD_dp (.cons (hs.same s13) .nil)), stpT_shaped [s], stpT_shaped [s], _, rfl, ifF (by rw [stpT_eqv [s]]; rfl) ⟨_, _, _, rfl, L12.same s13⟩⟩
          · refine ⟨_, rfl, rfl, _, rfl, iteT ⟨_, rfl, _, rfl, badD 0, badD 0, .tup (SqT.of hf) (.cons (.str _) (.cons (.int _) .nil)), .tup (SqT.of hq) (.cons (.str _) (.cons (.int _) .nil)), (bad_sh 0).1, (bad_sh 0).1, _, rfl, ifF (by rw [(bad_sh 0).2]; rfl) ⟨_, rfl, rfl, _, rfl, iteF ⟨_, _, _, rfl, L12⟩⟩⟩⟩
        clear L12 h10
        rintro σ H13 ⟨x8, x9, x10, rfl, L13⟩
        -- a plan joined to two more
        obtain ⟨dx, tp, us, ep, etp, gp⟩ := id L13.pl
        refine ⟨_, rfl, p, dx, _, rfl, ep, no_join, by show 2 ≤ sizeLine; decide, fun t1 ht1 x1 d1 hx1 hd1 _ => mk_plan (ss := [.meet true 1]) hx1 hd1 (.cons ⟨t1, rfl, upd_same⟩ .nil) (by decide) (by decide) fun H15 s15 p1 => ?_⟩
        have s16 := (same_upd (o := .tup [.str "red", .int 1]) ht1).trans s15
        refine ⟨by show 2 ≤ sizeLine; decide, fun t2 ht2 => ⟨by show 1 ≤ sizeLine; decide, fun t3 ht3 x2 d2 hx2 hd2 _ => mk_plan (ss := [.meet false 2, .turn]) hx2 hd2 (.cons ⟨t2, rfl, same_upd ht3 _ _ upd_same⟩ (.cons ⟨t3, rfl, upd_same⟩ .nil)) (by decide) (by decide) fun H17 s17 p2 => ?_⟩⟩
        have s18 := ((same_upd (o := .tup [.str "blue", .int 2]) ht2).trans (same_upd (o := .tup [.str "turn"]) ht3)).trans s17
        have L17 := L13.same (s16.trans s18)
        have ejs : ss ++ [[Stp.meet true 1], [Stp.meet false 2, Stp.turn]].flatten = ss ++ tailS := rfl
        refine ⟨p, ss, _, [[.meet true 1], [.meet false 2, .turn]], rfl, L17.pl, .cons ⟨x1, rfl, p1.same s18⟩ (.cons ⟨x2, rfl, p2⟩ .nil), by show 2 ≤ 100; decide, ?_, ?_, fun _ pm H18 s19 pl => ?_, fun hbig => ?_⟩
        · rw [ejs]
          intro s hs
          rcases List.mem_append.mp hs with q | q
          · exact o18 s q
          · exact (show ∀ s ∈ tailS, s.ok 1000000000000000000 by decide) s q
        · rw [ejs, List.length_append]
          show ss.length + 3 ≤ 10000
          omega
        rotate_left
        · rw [ejs, List.length_append] at hbig
          have : tailS.length = 3 := rfl
          omega
        rw [ejs] at pl
        have L18 := L17.same s19
        clear L13 L17 s19 s18 s17 p1 p2 s16 s15 ep etp gp ejs
        refine ⟨fun σ' H' => ∃ (x11 : Option V), σ' = [some (.ref a), some (.ref st), some (.int (0 + (i0 : Int))), some (.int hi), some (.ref l), some (.ref p), some (.int at7), x7, x8, x9, x10, x11, x12, x13] ∧ Rec1 K C (TTs Pt Pd) H' st l p ws ss, ?_, ?_⟩
        · obtain ⟨dm, tp, us, ep, etp, gp⟩ := id pl
          have lu : us.length = ss.length + 3 := by rw [gp.length, List.length_append]; rfl
          refine ⟨_, rfl, pm, dm, _, rfl, ep, pm, dm, _, _, rfl, ep, lk_self, _, rfl, l, _, rfl, .inl (SqL.of L18.el), _, rfl, ?_⟩
          refine sl_cutN etp fun q H19 s19 eq => ?_
          rw [lw, cut_tail us lu] at eq
          have g19 : Steps H19 (us.drop ss.length) tailS := by
            have z := (gp.same s19).drop ss.length
            rw [List.drop_left] at z
            exact z
          refine ⟨by show 2 ≤ sizeLine; decide, fun t1 ht1 => ⟨by show 2 ≤ sizeLine; decide, fun t2 ht2 => ⟨by show 1 ≤ sizeLine; decide, fun t3 ht3 => ⟨by show 3 ≤ sizeLine; decide, fun t4 ht4 => ?_⟩⟩⟩⟩
          have z1 := same_upd (o := .tup [.str "red", .int 1]) ht1
          have z2 := same_upd (o := .tup [.str "blue", .int 2]) ht2
          have z3 := same_upd (o := .tup [.str "turn"]) ht3
          have z4 := same_upd (o := .tup [.ref t1, .ref t2, .ref t3]) ht4
          have gT : Steps (upd (upd (upd (upd H19 t1 (.tup [.str "red", .int 1])) t2 (.tup [.str "blue", .int 2])) t3 (.tup [.str "turn"])) t4 (.tup [.ref t1, .ref t2, .ref t3])) [.ref t1, .ref t2, .ref t3] tailS :=
            .cons ⟨t1, rfl, z4 _ _ (z3 _ _ (z2 _ _ upd_same))⟩ (.cons ⟨t2, rfl, z4 _ _ (z3 _ _ upd_same)⟩ (.cons ⟨t3, rfl, z4 _ _ upd_same⟩ .nil))
          have z := z1.trans (z2.trans (z3.trans z4))
          refine ⟨.tuple (tailS.map stpD), .tuple (tailS.map stpD), .tup (eq _ z) (stpD_dp (g19.same z)), .tup (SqT.of upd_same) (stpD_dp gT), stpT_shaped _, stpT_shaped _, _, rfl, ifF (by rw [stpT_eqv]; rfl) ⟨_, rfl, (L18.same s19).same z⟩⟩
        clear L18 pl
        rintro σ H19 ⟨x11, rfl, L19⟩
        -- sixty steps
        have aok : ∀ n ∈ [(1 : Int), 2, 3, 4, 5, 6], 0 ≤ n ∧ n ≤ 1000000000000000000 := by decide
        have aok2 : ∀ n ∈ [(6 : Int), 5, 4, 3, 2, 1], 0 ≤ n ∧ n ≤ 1000000000000000000 := by decide
        refine ⟨rfl, [1, 2, 3, 4, 5, 6], rfl, aok, by decide, fun pa H20 s20 pla => ?_⟩
        obtain ⟨da, ta, ua, ea, eta, ga⟩ := id pla
        refine ⟨pa, da, _, rfl, ea, no_join, rfl, [6, 5, 4, 3, 2, 1], rfl, aok2, by decide, fun pb H21 s21 plb => ?_⟩
        refine ⟨pa, _, _, [altL [6, 5, 4, 3, 2, 1]], rfl, pla.same s21, .cons ⟨pb, rfl, plb⟩ .nil, by show 1 ≤ 100; decide, ss12_ok, by show ss12.length ≤ 10000; rw [ss12_len]; decide, fun _ pc H22 s22 plc => ?_, fun hbig => absurd hbig (by show ¬ 60 < ss12.length; rw [ss12_len]; decide)⟩
        have L22 := L19.same (s20.trans (s21.trans s22))
        clear pla eta ga ea s20 s21 s22 plb L19
        change PlanAt C H22 pc ss12 at plc
        obtain ⟨dc, tc, uc, ec, etc, gc⟩ := id plc
        have A4 : PAt C H22 (.ref pc) ss12 := ⟨pc, rfl, plc⟩
        refine ⟨_, rfl, pc, dc, _, rfl, ec, no_join, _, rfl, _, rfl, _, rfl, _, rfl, pc, ss12, _, [ss12, ss12, ss12, ss12], rfl, plc, .cons A4 (.cons A4 (.cons A4 (.cons A4 .nil))), by show 4 ≤ 100; decide, ss60_ok, by show ss60.length ≤ 10000; rw [ss60_len]; decide, fun _ p60 H23 s23 pl60 => ?_, fun hbig => absurd hbig (by show ¬ 60 < ss60.length; rw [ss60_len]; decide)⟩
        have L23 := L22.same s23
        clear L22 plc etc gc A4 ec s23
        change PlanAt C H23 p60 ss60 at pl60
        refine ⟨fun σ' H' => σ' = [some (.ref a), some (.ref st), some (.int (0 + (i0 : Int))), some (.int hi), some (.ref l), some (.ref p), some (.int at7), x7, x8, x9, x10, x11, some (.ref p60), x13] ∧ Rec1 K C (TTs Pt Pd) H' st l p ws ss ∧ PlanAt C H' p60 ss60, ?_, ?_⟩
        · obtain ⟨dm, tp, us, ep, etp, gp⟩ := id pl60
          have lu : us.length = 60 := gp.length.trans ss60_len
          refine ⟨_, rfl, p60, dm, _, rfl, ep, p60, dm, _, _, rfl, ep, lk_self, _, 60, rfl, .inr ⟨us, etp.sq, lu.symm⟩, rfl, _, rfl, iteF ?_⟩
          refine ⟨L23.tb, fun fl H24 nfl y24 T24 lam => ⟨fl, rfl, _, _, _, _, _, lam, lamN_by (N := nLaw) (sc := defScope sLaw) (by decide +kernel), .inl ⟨rfl, fun _ _ _ _ _ => rfl⟩, fun _ _ _ _ _ _ => rfl, fun A' outer' s' H3 c' hr' => by exact pe_methR (pv 12) T.cl MJ GJA (hr'.mono (by decide)) (passes_call (takes_of rfl rfl rfl rfl) fun _ _ _ _ h => h) (pa_cons (StX.pe_makeR M GI (hr'.mono (by decide)) rfl T.gP pass0 (pa_cons (pe_tup (pa_cons pe_str pa_nil)) pa_nil)) pa_nil), ?_⟩⟩
          have L24 := L23.ext y24 T24
          have pl24 := planAt_extN pl60 y24
          refine ⟨_, rfl, p60, dm, _, rfl, y24 _ _ ep (fun _ z => nomatch z), no_join, by show 1 ≤ sizeLine; decide, fun t1 ht1 x1 d1 hx1 hd1 _ => mk_plan (ss := [.turn]) hx1 hd1 (.cons ⟨t1, rfl, upd_same⟩ .nil) (by decide) (by decide) fun H25 s25 p1 => ?_⟩
          have s26 := (same_upd (o := .tup [.str "turn"]) ht1).trans s25
          have e61 : (ss60 ++ [[Stp.turn]].flatten).length = 61 := by rw [List.length_append, ss60_len]; rfl
          refine ⟨p60, ss60, _, [[.turn]], rfl, pl24.same s26, .cons ⟨x1, rfl, p1⟩ .nil, by show 1 ≤ 100; decide, fun s hs => ?_, by rw [e61]; decide, fun z => absurd z (by rw [e61]; decide), fun _ H26 d s27 hd => .inr (.inl ⟨rfl, d, _, _, rfl, upd_same, lkZ, fun t ht => ?_⟩)⟩
          · rcases List.mem_append.mp hs with q | q
            · exact ss60_ok s q
            · rw [show s = Stp.turn from List.mem_singleton.mp q]
              trivial
          refine ⟨by show 2 ≤ sizeLine; decide, fun t2 ht2 => ?_⟩
          have z := ((s26.trans s27).trans ((same_upd (o := .xd [("index", .int 60)]) hd).trans (same_upd (o := .tup [.str "InvalidPlan", .int 60]) ht))).trans (same_upd (o := .tup [.str "InvalidPlan", .int 60]) ht2)
          refine ⟨badD 60, badD 60, .tup (SqT.of (same_upd ht2 _ _ upd_same)) (.cons (.str _) (.cons (.int _) .nil)), .tup (SqT.of upd_same) (.cons (.str _) (.cons (.int _) .nil)), (bad_sh 60).1, (bad_sh 60).1, _, rfl, ifF (by rw [(bad_sh 60).2]; rfl) ⟨rfl, L24.same z, pl24.same z⟩⟩
        clear L23 pl60
        rintro σ H24 ⟨rfl, L24, pl24⟩
        obtain ⟨dm, tp, us, ep, etp, gp⟩ := id pl24
        have lu : us.length = 60 := gp.length.trans ss60_len
        refine ⟨_, rfl, p60, dm, _, rfl, ep, p60, dm, _, _, rfl, ep, lk_self, _, rfl, _, rfl, sl_cut (lo := some ((5 : Nat) : Int)) (hi := some ((8 : Nat) : Int)) etp fun q H25 s25 eq => ?_⟩
        have ecut : cutV us (some ((5 : Nat) : Int)) (some ((8 : Nat) : Int)) = (us.drop 5).take 3 := by
          unfold cutV
          rw [HT.sIx_nat, HT.sIx_nat, lu]
          rfl
        rw [ecut] at eq
        have g25 : Steps H25 ((us.drop 5).take 3) [.meet false 6, .meet true 6, .meet false 5] := by
          have z := ((gp.same s25).drop 5).take 3
          rw [ss60_cut] at z
          exact z
        refine ⟨by show 2 ≤ sizeLine; decide, fun t1 ht1 => ⟨by show 2 ≤ sizeLine; decide, fun t2 ht2 => ⟨by show 2 ≤ sizeLine; decide, fun t3 ht3 => ⟨by show 3 ≤ sizeLine; decide, fun t4 ht4 => ?_⟩⟩⟩⟩
        have z1 := same_upd (o := .tup [.str "blue", .int 6]) ht1
        have z2 := same_upd (o := .tup [.str "red", .int 6]) ht2
        have z3 := same_upd (o := .tup [.str "blue", .int 5]) ht3
        have z4 := same_upd (o := .tup [.ref t1, .ref t2, .ref t3]) ht4
        have gT : Steps (upd (upd (upd (upd H25 t1 (.tup [.str "blue", .int 6])) t2 (.tup [.str "red", .int 6])) t3 (.tup [.str "blue", .int 5])) t4 (.tup [.ref t1, .ref t2, .ref t3])) [.ref t1, .ref t2, .ref t3] [.meet false 6, .meet true 6, .meet false 5] :=
          .cons ⟨t1, rfl, z4 _ _ (z3 _ _ (z2 _ _ upd_same))⟩ (.cons ⟨t2, rfl, z4 _ _ (z3 _ _ upd_same)⟩ (.cons ⟨t3, rfl, z4 _ _ upd_same⟩ .nil))
        have z := z1.trans (z2.trans (z3.trans z4))
        refine ⟨.tuple ([Stp.meet false 6, .meet true 6, .meet false 5].map stpD), .tuple ([Stp.meet false 6, .meet true 6, .meet false 5].map stpD), .tup (eq _ z) (stpD_dp (g25.same z)), .tup (SqT.of upd_same) (stpD_dp gT), stpT_shaped _, stpT_shaped _, _, rfl, ifF (by rw [stpT_eqv]; rfl) ?_⟩
        have L25 := (L24.same s25).same z
        generalize upd (upd (upd (upd H25 t1 (.tup [.str "blue", .int 6])) t2 (.tup [.str "red", .int 6])) t3 (.tup [.str "blue", .int 5])) t4 (.tup [.ref t1, .ref t2, .ref t3]) = H26 at *
        clear z z1 z2 z3 z4 gT eq g25 ecut L24 pl24 etp gp ep lu s25
        -- what is refused
        refine ⟨_, rfl, _, rfl, _, rfl, _, rfl, _, _, rfl, rfl, st, _, rfl, L25.d, by omega, by omega, fun cc H27 c0 c1 D27 b27 => ?_⟩
        have L27 := L25.but b27 D27
        refine ⟨p, l, ws, ss, cc, rfl, L27.pl, L27.el, L27.g, by omega, o18, c0, by omega, L27.tb, fun H28 y28 T28 => ⟨_, rfl, iteF ⟨_, _, _, _, _, _, _, _, _, _, _, _, rfl, drawAt_extN L27.d y28, T28⟩⟩⟩
    · rintro σ H2 ⟨x2, x3, x4, x5, x6, x7, x8, x9, x10, x11, x12, x13, rfl, D2, T2⟩
      exact k H2
end
end Cc

namespace Cc
open PySem PySem.Spec PyProof.Rows L2
open LamX
theorem dn_mk {P : Program} {w : World} {K : PySem.W.Frag} {mg : Str → Option Value} {base : Heap} {k : Nat} {x : Str} {f : Addr} {fd : FuncData} {ps : List Str} {sp : Sp} (a : mg x = some (.ref f)) (kp : PySem.W.keepIn K (.ref f) = true) (F : FnOk P w K mg base CX0 k f fd ps sp) (b : Binds K fd ps []) :
    Dn P w K mg base k x f sp := ⟨a, kp, (F.raw b .nil).imp fun vs H Q E h => by rw [List.append_nil]; exact h⟩
theorem dnx_mk {P : Program} {w : World} {K : PySem.W.Frag} {mg : Str → Option Value} {base : Heap} {k : Nat} {x : Str} {f : Addr} {fd : FuncData} {ps : List Str} {sp : Sp} (a : mg x = some (.ref f)) (kp : PySem.W.keepIn K (.ref f) = true) (F : FnOk P w K mg base (L2.CX P w) k f fd ps sp) (b : Binds K fd ps []) :
    DnX P w K mg base k x f sp := ⟨a, kp, (F.raw b .nil).imp fun vs H Q E h => by rw [List.append_nil]; exact h⟩
theorem all_mk {P : Program} {w : World} {K : PySem.W.Frag} {h : Heap} {mg : Str → Option Value} {fa C TU pS f_is_whole f_is_number f_check_number f_check_house f_is_step f__law_start f__law_drawn f__law_random_steps f__law_plan f_after_step f_after_steps f_few_rounds f_after_rounds f_check_start f_checked_rounds f_total_carried f_red_chairs f_allowed_range f_narrowed f_nearest f_effect_of f_summary f_telling_starts f_first_difference f_settled_carrying f__law_few f__law_is_step f__law_bad_step f__law_refused cL0 PT0 f_law cL PT f__law_outcome f_long_run f_saving fminit fmjoined fmalt pA2 EInvalidNumber EInvalidPlan BInvalidPlan fIInvalidPlan ccInvalidPlan cdaInvalidPlan NInvalidPlan ETooFewChairs BTooFewChairs fITooFewChairs ccTooFewChairs cdaTooFewChairs NTooFewChairs fmst : Addr} (X : K.In h) (G : h.Ns mainGlobals mg) (hfa : mg "law" = some (.ref fa))
    {od_is_whole an_is_whole od_is_number an_is_number od_check_number an_check_number od_check_house an_check_house od_is_step an_is_step od__law_start an__law_start od__law_drawn an__law_drawn od__law_random_steps an__law_random_steps od__law_plan an__law_plan od_after_step an_after_step od_after_steps an_after_steps od_few_rounds an_few_rounds od_after_rounds an_after_rounds od_check_start an_check_start od_checked_rounds an_checked_rounds od_total_carried an_total_carried od_red_chairs an_red_chairs od_allowed_range an_allowed_range od_narrowed an_narrowed od_nearest an_nearest od_effect_of an_effect_of od_summary an_summary od_telling_starts an_telling_starts od_first_difference an_first_difference od_settled_carrying an_settled_carrying od__law_few an__law_few od__law_is_step an__law_is_step od__law_bad_step an__law_bad_step od__law_refused an__law_refused dC0 od_law an_law dC od__law_outcome an__law_outcome od_long_run an_long_run od_saving an_saving odminit anminit odmjoined anmjoined odmalt anmalt odInvalidPlan anInvalidPlan cldInvalidPlan cddInvalidPlan ddInvalidPlan odTooFewChairs anTooFewChairs cldTooFewChairs cddTooFewChairs ddTooFewChairs odmst anmst dT : Option Addr} {sl_is_whole sl_is_number sl_check_number sl_check_house sl_is_step sl__law_start sl__law_drawn sl__law_random_steps sl__law_plan sl_after_step sl_after_steps sl_few_rounds sl_after_rounds sl_check_start sl_checked_rounds sl_total_carried sl_red_chairs sl_allowed_range sl_narrowed sl_nearest sl_effect_of sl_summary sl_telling_starts sl_first_difference sl_settled_carrying sl__law_few sl__law_is_step sl__law_bad_step sl__law_refused slC0 sl_law slC sl__law_outcome sl_long_run sl_saving slminit slmjoined slmalt slInvalidPlan cslInvalidPlan ccsInvalidPlan slTooFewChairs cslTooFewChairs ccsTooFewChairs slmst slT : Array (Option Value)} {oc_is_whole kV_is_whole dc_is_whole pm_is_whole cd_is_whole ct_is_whole oc_is_number kV_is_number dc_is_number pm_is_number cd_is_number ct_is_number oc_check_number kV_check_number dc_check_number pm_check_number cd_check_number ct_check_number oc_check_house kV_check_house dc_check_house pm_check_house cd_check_house ct_check_house oc_is_step kV_is_step dc_is_step pm_is_step cd_is_step ct_is_step oc__law_start kV__law_start dc__law_start pm__law_start cd__law_start ct__law_start oc__law_drawn kV__law_drawn dc__law_drawn pm__law_drawn cd__law_drawn ct__law_drawn oc__law_random_steps kV__law_random_steps dc__law_random_steps pm__law_random_steps cd__law_random_steps ct__law_random_steps oc__law_plan kV__law_plan dc__law_plan pm__law_plan cd__law_plan ct__law_plan oc_after_step kV_after_step dc_after_step pm_after_step cd_after_step ct_after_step oc_after_steps kV_after_steps dc_after_steps pm_after_steps cd_after_steps ct_after_steps oc_few_rounds kV_few_rounds dc_few_rounds pm_few_rounds cd_few_rounds ct_few_rounds oc_after_rounds kV_after_rounds dc_after_rounds pm_after_rounds cd_after_rounds ct_after_rounds oc_check_start kV_check_start dc_check_start pm_check_start cd_check_start ct_check_start oc_checked_rounds kV_checked_rounds dc_checked_rounds pm_checked_rounds cd_checked_rounds ct_checked_rounds oc_total_carried kV_total_carried dc_total_carried pm_total_carried cd_total_carried ct_total_carried oc_red_chairs kV_red_chairs dc_red_chairs pm_red_chairs cd_red_chairs ct_red_chairs oc_allowed_range kV_allowed_range dc_allowed_range pm_allowed_range cd_allowed_range ct_allowed_range oc_narrowed kV_narrowed dc_narrowed pm_narrowed cd_narrowed ct_narrowed oc_nearest kV_nearest dc_nearest pm_nearest cd_nearest ct_nearest oc_effect_of kV_effect_of dc_effect_of pm_effect_of cd_effect_of ct_effect_of oc_summary kV_summary dc_summary pm_summary cd_summary ct_summary oc_telling_starts kV_telling_starts dc_telling_starts pm_telling_starts cd_telling_starts ct_telling_starts oc_first_difference kV_first_difference dc_first_difference pm_first_difference cd_first_difference ct_first_difference oc_settled_carrying kV_settled_carrying dc_settled_carrying pm_settled_carrying cd_settled_carrying ct_settled_carrying oc__law_few kV__law_few dc__law_few pm__law_few cd__law_few ct__law_few oc__law_is_step kV__law_is_step dc__law_is_step pm__law_is_step cd__law_is_step ct__law_is_step oc__law_bad_step kV__law_bad_step dc__law_bad_step pm__law_bad_step cd__law_bad_step ct__law_bad_step oc__law_refused kV__law_refused dc__law_refused pm__law_refused ct__law_refused oC0 oc_law kV_law dc_law pm_law ct_law oC oc__law_outcome kV__law_outcome dc__law_outcome pm__law_outcome cd__law_outcome ct__law_outcome oc_long_run kV_long_run dc_long_run pm_long_run cd_long_run ct_long_run oc_saving kV_saving dc_saving pm_saving cd_saving ct_saving ocminit kVminit dcminit pmminit cdminit ctminit ocmjoined kVmjoined dcmjoined pmmjoined cdmjoined ctmjoined ocmalt kVmalt dcmalt pmmalt cdmalt ctmalt ocInvalidPlan kVInvalidPlan dcInvalidPlan pmInvalidPlan ctInvalidPlan clInvalidPlan cclInvalidPlan ocTooFewChairs kVTooFewChairs dcTooFewChairs pmTooFewChairs ctTooFewChairs clTooFewChairs cclTooFewChairs ocmst kVmst dcmst pmmst cdmst ctmst : Value} {rs rs2 : List Value} {t1 t2 t3 t4 t_MAX_ROUNDS : Tok} {nT : Nat} {vC vC0 : Array Value} {nmInvalidPlan qInvalidPlan t1InvalidPlan t2InvalidPlan fileInvalidPlan : Str} {bsInvalidPlan subInvalidPlan : List Value} {snInvalidPlan : List Str} {abInvalidPlan : Bool} {colInvalidPlan : Option Bool} {m0InvalidPlan m1InvalidPlan m2InvalidPlan m3InvalidPlan m5InvalidPlan : Option Value} {vsInvalidPlan : Array Value} {tkInvalidPlan : Tok} {p1InvalidPlan p2InvalidPlan a1InvalidPlan a2InvalidPlan a3InvalidPlan a4InvalidPlan a5InvalidPlan a6InvalidPlan a7InvalidPlan a8InvalidPlan a9InvalidPlan a10InvalidPlan b1InvalidPlan b2InvalidPlan b3InvalidPlan b4InvalidPlan : Pos} {nmTooFewChairs qTooFewChairs t1TooFewChairs t2TooFewChairs fileTooFewChairs : Str} {bsTooFewChairs subTooFewChairs : List Value} {snTooFewChairs : List Str} {abTooFewChairs : Bool} {colTooFewChairs : Option Bool} {m0TooFewChairs m1TooFewChairs m2TooFewChairs m3TooFewChairs m5TooFewChairs : Option Value} {vsTooFewChairs : Array Value} {tkTooFewChairs : Tok} {p1TooFewChairs p2TooFewChairs a1TooFewChairs a2TooFewChairs a3TooFewChairs a4TooFewChairs a5TooFewChairs a6TooFewChairs a7TooFewChairs a8TooFewChairs a9TooFewChairs a10TooFewChairs b1TooFewChairs b2TooFewChairs b3TooFewChairs b4TooFewChairs : Pos} {ftu Ptu : Addr} {odtu antu : Option Addr} {sltu : Array (Option Value)} {octu kVtu dctu pmtu cdtu cttu : Value} {rstu : List Value}
    (a_is_whole : PySem.W.nsIn K mainGlobals "is_whole" = some (some (.ref f_is_whole)))
    (l_is_whole : K.lookup f_is_whole = some ⟨oc_is_whole, od_is_whole, .func (PySem.W.fnOf "is_whole" "is_whole" (defArgs sIsWhole) (defBody sIsWhole) (defScope sIsWhole) .none kV_is_whole dc_is_whole pm_is_whole an_is_whole cd_is_whole ct_is_whole), sl_is_whole⟩)
    (c_is_whole : PySem.W.codeIn K cd_is_whole "is_whole" = true)
    (k_is_whole : PySem.W.keepIn K (.ref f_is_whole) = true)
    (a_is_number : PySem.W.nsIn K mainGlobals "is_number" = some (some (.ref f_is_number)))
    (l_is_number : K.lookup f_is_number = some ⟨oc_is_number, od_is_number, .func (PySem.W.fnOf "is_number" "is_number" (defArgs sIsNum) (defBody sIsNum) (defScope sIsNum) .none kV_is_number dc_is_number pm_is_number an_is_number cd_is_number ct_is_number), sl_is_number⟩)
    (c_is_number : PySem.W.codeIn K cd_is_number "is_number" = true)
    (k_is_number : PySem.W.keepIn K (.ref f_is_number) = true)
    (a_check_number : PySem.W.nsIn K mainGlobals "check_number" = some (some (.ref f_check_number)))
    (l_check_number : K.lookup f_check_number = some ⟨oc_check_number, od_check_number, .func (PySem.W.fnOf "check_number" "check_number" (defArgs sChkNum) (defBody sChkNum) (defScope sChkNum) .none kV_check_number dc_check_number pm_check_number an_check_number cd_check_number ct_check_number), sl_check_number⟩)
    (c_check_number : PySem.W.codeIn K cd_check_number "check_number" = true)
    (k_check_number : PySem.W.keepIn K (.ref f_check_number) = true)
    (a_check_house : PySem.W.nsIn K mainGlobals "check_house" = some (some (.ref f_check_house)))
    (l_check_house : K.lookup f_check_house = some ⟨oc_check_house, od_check_house, .func (PySem.W.fnOf "check_house" "check_house" (defArgs sChkHouse) (defBody sChkHouse) (defScope sChkHouse) .none kV_check_house dc_check_house pm_check_house an_check_house cd_check_house ct_check_house), sl_check_house⟩)
    (c_check_house : PySem.W.codeIn K cd_check_house "check_house" = true)
    (k_check_house : PySem.W.keepIn K (.ref f_check_house) = true)
    (a_is_step : PySem.W.nsIn K mainGlobals "is_step" = some (some (.ref f_is_step)))
    (l_is_step : K.lookup f_is_step = some ⟨oc_is_step, od_is_step, .func (PySem.W.fnOf "is_step" "is_step" (defArgs sIsStep) (defBody sIsStep) (defScope sIsStep) .none kV_is_step dc_is_step pm_is_step an_is_step cd_is_step ct_is_step), sl_is_step⟩)
    (c_is_step : PySem.W.codeIn K cd_is_step "is_step" = true)
    (k_is_step : PySem.W.keepIn K (.ref f_is_step) = true)
    (a__law_start : PySem.W.nsIn K mainGlobals "_law_start" = some (some (.ref f__law_start)))
    (l__law_start : K.lookup f__law_start = some ⟨oc__law_start, od__law_start, .func (PySem.W.fnOf "_law_start" "_law_start" (defArgs sStart) (defBody sStart) (defScope sStart) .none kV__law_start dc__law_start pm__law_start an__law_start cd__law_start ct__law_start), sl__law_start⟩)
    (c__law_start : PySem.W.codeIn K cd__law_start "_law_start" = true)
    (k__law_start : PySem.W.keepIn K (.ref f__law_start) = true)
    (a__law_drawn : PySem.W.nsIn K mainGlobals "_law_drawn" = some (some (.ref f__law_drawn)))
    (l__law_drawn : K.lookup f__law_drawn = some ⟨oc__law_drawn, od__law_drawn, .func (PySem.W.fnOf "_law_drawn" "_law_drawn" (defArgs sDrawn) (defBody sDrawn) (defScope sDrawn) .none kV__law_drawn dc__law_drawn pm__law_drawn an__law_drawn cd__law_drawn ct__law_drawn), sl__law_drawn⟩)
    (c__law_drawn : PySem.W.codeIn K cd__law_drawn "_law_drawn" = true)
    (k__law_drawn : PySem.W.keepIn K (.ref f__law_drawn) = true)
    (a__law_random_steps : PySem.W.nsIn K mainGlobals "_law_random_steps" = some (some (.ref f__law_random_steps)))
    (l__law_random_steps : K.lookup f__law_random_steps = some ⟨oc__law_random_steps, od__law_random_steps, .func (PySem.W.fnOf "_law_random_steps" "_law_random_steps" (defArgs sRnd) (defBody sRnd) (defScope sRnd) .none kV__law_random_steps dc__law_random_steps pm__law_random_steps an__law_random_steps cd__law_random_steps ct__law_random_steps), sl__law_random_steps⟩)
    (c__law_random_steps : PySem.W.codeIn K cd__law_random_steps "_law_random_steps" = true)
    (k__law_random_steps : PySem.W.keepIn K (.ref f__law_random_steps) = true)
    (a__law_plan : PySem.W.nsIn K mainGlobals "_law_plan" = some (some (.ref f__law_plan)))
    (l__law_plan : K.lookup f__law_plan = some ⟨oc__law_plan, od__law_plan, .func (PySem.W.fnOf "_law_plan" "_law_plan" (defArgs sLPlan) (defBody sLPlan) (defScope sLPlan) .none kV__law_plan dc__law_plan pm__law_plan an__law_plan cd__law_plan ct__law_plan), sl__law_plan⟩)
    (c__law_plan : PySem.W.codeIn K cd__law_plan "_law_plan" = true)
    (k__law_plan : PySem.W.keepIn K (.ref f__law_plan) = true)
    (a_after_step : PySem.W.nsIn K mainGlobals "after_step" = some (some (.ref f_after_step)))
    (l_after_step : K.lookup f_after_step = some ⟨oc_after_step, od_after_step, .func (PySem.W.fnOf "after_step" "after_step" (defArgs sAStep) (defBody sAStep) (defScope sAStep) .none kV_after_step dc_after_step pm_after_step an_after_step cd_after_step ct_after_step), sl_after_step⟩)
    (c_after_step : PySem.W.codeIn K cd_after_step "after_step" = true)
    (k_after_step : PySem.W.keepIn K (.ref f_after_step) = true)
    (a_after_steps : PySem.W.nsIn K mainGlobals "after_steps" = some (some (.ref f_after_steps)))
    (l_after_steps : K.lookup f_after_steps = some ⟨oc_after_steps, od_after_steps, .func (PySem.W.fnOf "after_steps" "after_steps" (defArgs sASteps) (defBody sASteps) (defScope sASteps) .none kV_after_steps dc_after_steps pm_after_steps an_after_steps cd_after_steps ct_after_steps), sl_after_steps⟩)
    (c_after_steps : PySem.W.codeIn K cd_after_steps "after_steps" = true)
    (k_after_steps : PySem.W.keepIn K (.ref f_after_steps) = true)
    (a_few_rounds : PySem.W.nsIn K mainGlobals "few_rounds" = some (some (.ref f_few_rounds)))
    (l_few_rounds : K.lookup f_few_rounds = some ⟨oc_few_rounds, od_few_rounds, .func (PySem.W.fnOf "few_rounds" "few_rounds" (defArgs s_few_rounds) (defBody s_few_rounds) (defScope s_few_rounds) .none kV_few_rounds dc_few_rounds pm_few_rounds an_few_rounds cd_few_rounds ct_few_rounds), sl_few_rounds⟩)
    (c_few_rounds : PySem.W.codeIn K cd_few_rounds "few_rounds" = true)
    (k_few_rounds : PySem.W.keepIn K (.ref f_few_rounds) = true)
    (a_after_rounds : PySem.W.nsIn K mainGlobals "after_rounds" = some (some (.ref f_after_rounds)))
    (l_after_rounds : K.lookup f_after_rounds = some ⟨oc_after_rounds, od_after_rounds, .func (PySem.W.fnOf "after_rounds" "after_rounds" (defArgs s_after_rounds) (defBody s_after_rounds) (defScope s_after_rounds) .none kV_after_rounds dc_after_rounds pm_after_rounds an_after_rounds cd_after_rounds ct_after_rounds), sl_after_rounds⟩)
    (c_after_rounds : PySem.W.codeIn K cd_after_rounds "after_rounds" = true)
    (k_after_rounds : PySem.W.keepIn K (.ref f_after_rounds) = true)
    (a_check_start : PySem.W.nsIn K mainGlobals "check_start" = some (some (.ref f_check_start)))
    (l_check_start : K.lookup f_check_start = some ⟨oc_check_start, od_check_start, .func (PySem.W.fnOf "check_start" "check_start" (defArgs s_check_start) (defBody s_check_start) (defScope s_check_start) .none kV_check_start dc_check_start pm_check_start an_check_start cd_check_start ct_check_start), sl_check_start⟩)
    (c_check_start : PySem.W.codeIn K cd_check_start "check_start" = true)
    (k_check_start : PySem.W.keepIn K (.ref f_check_start) = true)
    (a_checked_rounds : PySem.W.nsIn K mainGlobals "checked_rounds" = some (some (.ref f_checked_rounds)))
    (l_checked_rounds : K.lookup f_checked_rounds = some ⟨oc_checked_rounds, od_checked_rounds, .func (PySem.W.fnOf "checked_rounds" "checked_rounds" (defArgs s_checked_rounds) (defBody s_checked_rounds) (defScope s_checked_rounds) .none kV_checked_rounds dc_checked_rounds pm_checked_rounds an_checked_rounds cd_checked_rounds ct_checked_rounds), sl_checked_rounds⟩)
    (c_checked_rounds : PySem.W.codeIn K cd_checked_rounds "checked_rounds" = true)
    (k_checked_rounds : PySem.W.keepIn K (.ref f_checked_rounds) = true)
    (a_total_carried : PySem.W.nsIn K mainGlobals "total_carried" = some (some (.ref f_total_carried)))
    (l_total_carried : K.lookup f_total_carried = some ⟨oc_total_carried, od_total_carried, .func (PySem.W.fnOf "total_carried" "total_carried" (defArgs s_total_carried) (defBody s_total_carried) (defScope s_total_carried) .none kV_total_carried dc_total_carried pm_total_carried an_total_carried cd_total_carried ct_total_carried), sl_total_carried⟩)
    (c_total_carried : PySem.W.codeIn K cd_total_carried "total_carried" = true)
    (k_total_carried : PySem.W.keepIn K (.ref f_total_carried) = true)
    (a_red_chairs : PySem.W.nsIn K mainGlobals "red_chairs" = some (some (.ref f_red_chairs)))
    (l_red_chairs : K.lookup f_red_chairs = some ⟨oc_red_chairs, od_red_chairs, .func (PySem.W.fnOf "red_chairs" "red_chairs" (defArgs s_red_chairs) (defBody s_red_chairs) (defScope s_red_chairs) .none kV_red_chairs dc_red_chairs pm_red_chairs an_red_chairs cd_red_chairs ct_red_chairs), sl_red_chairs⟩)
    (c_red_chairs : PySem.W.codeIn K cd_red_chairs "red_chairs" = true)
    (k_red_chairs : PySem.W.keepIn K (.ref f_red_chairs) = true)
    (a_allowed_range : PySem.W.nsIn K mainGlobals "allowed_range" = some (some (.ref f_allowed_range)))
    (l_allowed_range : K.lookup f_allowed_range = some ⟨oc_allowed_range, od_allowed_range, .func (PySem.W.fnOf "allowed_range" "allowed_range" (defArgs sAllow) (defBody sAllow) (defScope sAllow) .none kV_allowed_range dc_allowed_range pm_allowed_range an_allowed_range cd_allowed_range ct_allowed_range), sl_allowed_range⟩)
    (c_allowed_range : PySem.W.codeIn K cd_allowed_range "allowed_range" = true)
    (k_allowed_range : PySem.W.keepIn K (.ref f_allowed_range) = true)
    (a_narrowed : PySem.W.nsIn K mainGlobals "narrowed" = some (some (.ref f_narrowed)))
    (l_narrowed : K.lookup f_narrowed = some ⟨oc_narrowed, od_narrowed, .func (PySem.W.fnOf "narrowed" "narrowed" (defArgs sNarrow) (defBody sNarrow) (defScope sNarrow) .none kV_narrowed dc_narrowed pm_narrowed an_narrowed cd_narrowed ct_narrowed), sl_narrowed⟩)
    (c_narrowed : PySem.W.codeIn K cd_narrowed "narrowed" = true)
    (k_narrowed : PySem.W.keepIn K (.ref f_narrowed) = true)
    (a_nearest : PySem.W.nsIn K mainGlobals "nearest" = some (some (.ref f_nearest)))
    (l_nearest : K.lookup f_nearest = some ⟨oc_nearest, od_nearest, .func (PySem.W.fnOf "nearest" "nearest" (defArgs sNear) (defBody sNear) (defScope sNear) .none kV_nearest dc_nearest pm_nearest an_nearest cd_nearest ct_nearest), sl_nearest⟩)
    (c_nearest : PySem.W.codeIn K cd_nearest "nearest" = true)
    (k_nearest : PySem.W.keepIn K (.ref f_nearest) = true)
    (a_effect_of : PySem.W.nsIn K mainGlobals "effect_of" = some (some (.ref f_effect_of)))
    (l_effect_of : K.lookup f_effect_of = some ⟨oc_effect_of, od_effect_of, .func (PySem.W.fnOf "effect_of" "effect_of" (defArgs sEffect) (defBody sEffect) (defScope sEffect) .none kV_effect_of dc_effect_of pm_effect_of an_effect_of cd_effect_of ct_effect_of), sl_effect_of⟩)
    (c_effect_of : PySem.W.codeIn K cd_effect_of "effect_of" = true)
    (k_effect_of : PySem.W.keepIn K (.ref f_effect_of) = true)
    (a_summary : PySem.W.nsIn K mainGlobals "summary" = some (some (.ref f_summary)))
    (l_summary : K.lookup f_summary = some ⟨oc_summary, od_summary, .func (PySem.W.fnOf "summary" "summary" (defArgs s_summary) (defBody s_summary) (defScope s_summary) .none kV_summary dc_summary pm_summary an_summary cd_summary ct_summary), sl_summary⟩)
    (c_summary : PySem.W.codeIn K cd_summary "summary" = true)
    (k_summary : PySem.W.keepIn K (.ref f_summary) = true)
    (a_telling_starts : PySem.W.nsIn K mainGlobals "telling_starts" = some (some (.ref f_telling_starts)))
    (l_telling_starts : K.lookup f_telling_starts = some ⟨oc_telling_starts, od_telling_starts, .func (PySem.W.fnOf "telling_starts" "telling_starts" (defArgs sTell) (defBody sTell) (defScope sTell) .none kV_telling_starts dc_telling_starts pm_telling_starts an_telling_starts cd_telling_starts ct_telling_starts), sl_telling_starts⟩)
    (c_telling_starts : PySem.W.codeIn K cd_telling_starts "telling_starts" = true)
    (k_telling_starts : PySem.W.keepIn K (.ref f_telling_starts) = true)
    (a_first_difference : PySem.W.nsIn K mainGlobals "first_difference" = some (some (.ref f_first_difference)))
    (l_first_difference : K.lookup f_first_difference = some ⟨oc_first_difference, od_first_difference, .func (PySem.W.fnOf "first_difference" "first_difference" (defArgs sFirst) (defBody sFirst) (defScope sFirst) .none kV_first_difference dc_first_difference pm_first_difference an_first_difference cd_first_difference ct_first_difference), sl_first_difference⟩)
    (c_first_difference : PySem.W.codeIn K cd_first_difference "first_difference" = true)
    (k_first_difference : PySem.W.keepIn K (.ref f_first_difference) = true)
    (a_settled_carrying : PySem.W.nsIn K mainGlobals "settled_carrying" = some (some (.ref f_settled_carrying)))
    (l_settled_carrying : K.lookup f_settled_carrying = some ⟨oc_settled_carrying, od_settled_carrying, .func (PySem.W.fnOf "settled_carrying" "settled_carrying" (defArgs s_settled_carrying) (defBody s_settled_carrying) (defScope s_settled_carrying) .none kV_settled_carrying dc_settled_carrying pm_settled_carrying an_settled_carrying cd_settled_carrying ct_settled_carrying), sl_settled_carrying⟩)
    (c_settled_carrying : PySem.W.codeIn K cd_settled_carrying "settled_carrying" = true)
    (k_settled_carrying : PySem.W.keepIn K (.ref f_settled_carrying) = true)
    (a__law_few : PySem.W.nsIn K mainGlobals "_law_few" = some (some (.ref f__law_few)))
    (l__law_few : K.lookup f__law_few = some ⟨oc__law_few, od__law_few, .func (PySem.W.fnOf "_law_few" "_law_few" (defArgs s__law_few) (defBody s__law_few) (defScope s__law_few) .none kV__law_few dc__law_few pm__law_few an__law_few cd__law_few ct__law_few), sl__law_few⟩)
    (c__law_few : PySem.W.codeIn K cd__law_few "_law_few" = true)
    (k__law_few : PySem.W.keepIn K (.ref f__law_few) = true)
    (a__law_is_step : PySem.W.nsIn K mainGlobals "_law_is_step" = some (some (.ref f__law_is_step)))
    (l__law_is_step : K.lookup f__law_is_step = some ⟨oc__law_is_step, od__law_is_step, .func (PySem.W.fnOf "_law_is_step" "_law_is_step" (defArgs s__law_is_step) (defBody s__law_is_step) (defScope s__law_is_step) .none kV__law_is_step dc__law_is_step pm__law_is_step an__law_is_step cd__law_is_step ct__law_is_step), sl__law_is_step⟩)
    (c__law_is_step : PySem.W.codeIn K cd__law_is_step "_law_is_step" = true)
    (k__law_is_step : PySem.W.keepIn K (.ref f__law_is_step) = true)
    (a__law_bad_step : PySem.W.nsIn K mainGlobals "_law_bad_step" = some (some (.ref f__law_bad_step)))
    (l__law_bad_step : K.lookup f__law_bad_step = some ⟨oc__law_bad_step, od__law_bad_step, .func (PySem.W.fnOf "_law_bad_step" "_law_bad_step" (defArgs s__law_bad_step) (defBody s__law_bad_step) (defScope s__law_bad_step) .none kV__law_bad_step dc__law_bad_step pm__law_bad_step an__law_bad_step cd__law_bad_step ct__law_bad_step), sl__law_bad_step⟩)
    (c__law_bad_step : PySem.W.codeIn K cd__law_bad_step "_law_bad_step" = true)
    (k__law_bad_step : PySem.W.keepIn K (.ref f__law_bad_step) = true)
    (a__law_refused : PySem.W.nsIn K mainGlobals "_law_refused" = some (some (.ref f__law_refused)))
    (l__law_refused : K.lookup f__law_refused = some ⟨oc__law_refused, od__law_refused, .func (PySem.W.fnOf "_law_refused" "_law_refused" (defArgs s__law_refused) (defBody s__law_refused) (defScope s__law_refused) .none kV__law_refused dc__law_refused pm__law_refused an__law_refused (.ref cL0) ct__law_refused), sl__law_refused⟩)
    (c__law_refused : PySem.W.codeIn K (.ref cL0) "_law_refused" = true)
    (lC0 : K.lookup cL0 = some ⟨oC0, dC0, .fields vC0, slC0⟩)
    (v110 : vC0[11]? = some (.ref PT0))
    (tN0 : K.lookup PT0 = none)
    (k__law_refused : PySem.W.keepIn K (.ref f__law_refused) = true)
    (a_law : PySem.W.nsIn K mainGlobals "law" = some (some (.ref f_law)))
    (l_law : K.lookup f_law = some ⟨oc_law, od_law, .func (PySem.W.fnOf "law" "law" (defArgs sLaw) (defBody sLaw) (defScope sLaw) .none kV_law dc_law pm_law an_law (.ref cL) ct_law), sl_law⟩)
    (c_law : PySem.W.codeIn K (.ref cL) "law" = true)
    (lC : K.lookup cL = some ⟨oC, dC, .fields vC, slC⟩)
    (v11 : vC[11]? = some (.ref PT))
    (tN : K.lookup PT = none)
    (k_law : PySem.W.keepIn K (.ref f_law) = true)
    (a__law_outcome : PySem.W.nsIn K mainGlobals "_law_outcome" = some (some (.ref f__law_outcome)))
    (l__law_outcome : K.lookup f__law_outcome = some ⟨oc__law_outcome, od__law_outcome, .func (PySem.W.fnOf "_law_outcome" "_law_outcome" (defArgs sOutcome) (defBody sOutcome) (defScope sOutcome) .none kV__law_outcome dc__law_outcome pm__law_outcome an__law_outcome cd__law_outcome ct__law_outcome), sl__law_outcome⟩)
    (c__law_outcome : PySem.W.codeIn K cd__law_outcome "_law_outcome" = true)
    (k__law_outcome : PySem.W.keepIn K (.ref f__law_outcome) = true)
    (a_long_run : PySem.W.nsIn K mainGlobals "long_run" = some (some (.ref f_long_run)))
    (l_long_run : K.lookup f_long_run = some ⟨oc_long_run, od_long_run, .func (PySem.W.fnOf "long_run" "long_run" (defArgs s_long_run) (defBody s_long_run) (defScope s_long_run) .none kV_long_run dc_long_run pm_long_run an_long_run cd_long_run ct_long_run), sl_long_run⟩)
    (c_long_run : PySem.W.codeIn K cd_long_run "long_run" = true)
    (k_long_run : PySem.W.keepIn K (.ref f_long_run) = true)
    (a_saving : PySem.W.nsIn K mainGlobals "saving" = some (some (.ref f_saving)))
    (l_saving : K.lookup f_saving = some ⟨oc_saving, od_saving, .func (PySem.W.fnOf "saving" "saving" (defArgs s_saving) (defBody s_saving) (defScope s_saving) .none kV_saving dc_saving pm_saving an_saving cd_saving ct_saving), sl_saving⟩)
    (c_saving : PySem.W.codeIn K cd_saving "saving" = true)
    (k_saving : PySem.W.keepIn K (.ref f_saving) = true)
    (aC : PySem.W.nsIn K mainGlobals "Plan" = some (some (.ref C)))
    (aminit : PySem.W.findIn K (.ref C) "__init__" = some (some (.ref fminit)))
    (iminit : PySem.W.isFn K (.ref fminit) = true)
    (lminit : K.lookup fminit = some ⟨ocminit, odminit, .func (PySem.W.fnOf "__init__" "Plan.__init__" (defArgs sInit) (defBody sInit) (defScope sInit) .none kVminit dcminit pmminit anminit cdminit ctminit), slminit⟩)
    (cminit : PySem.W.codeIn K cdminit "Plan.__init__" = true)
    (kminit : PySem.W.keepIn K (.ref fminit) = true)
    (amjoined : PySem.W.findIn K (.ref C) "joined" = some (some (.ref fmjoined)))
    (imjoined : PySem.W.isFn K (.ref fmjoined) = true)
    (lmjoined : K.lookup fmjoined = some ⟨ocmjoined, odmjoined, .func (PySem.W.fnOf "joined" "Plan.joined" (defArgs sJoined) (defBody sJoined) (defScope sJoined) .none kVmjoined dcmjoined pmmjoined anmjoined cdmjoined ctmjoined), slmjoined⟩)
    (cmjoined : PySem.W.codeIn K cdmjoined "Plan.joined" = true)
    (kmjoined : PySem.W.keepIn K (.ref fmjoined) = true)
    (cA : PySem.W.findCls K (.ref C) (.type "type") "alternating" = some (.get (.builtin "classmethod.__get__") (.ref pA2) .none (.ref C)))
    (cB : PySem.W.recIn K pA2 "classmethod" = some (.ref fmalt :: rs2))
    (cC : PySem.W.fnIn K fmalt = true)
    (lmalt : K.lookup fmalt = some ⟨ocmalt, odmalt, .func (PySem.W.fnOf "alternating" "Plan.alternating" (defArgs sAlt) (defBody sAlt) (defScope sAlt) .none kVmalt dcmalt pmmalt anmalt cdmalt ctmalt), slmalt⟩)
    (cmalt : PySem.W.codeIn K cdmalt "Plan.alternating" = true)
    (kmalt : PySem.W.keepIn K (.ref fmalt) = true)
    (gInvalidNumber : PySem.W.nsIn K mainGlobals "InvalidNumber" = some (some (.ref EInvalidNumber)))
    (xInvalidNumber : PySem.W.excIn K EInvalidNumber [.type "ValueError", .type "Exception", .type "BaseException", .type "object"] "ValueError.__new__" = true)
    (kInvalidNumber : PySem.W.keepIn K (.ref EInvalidNumber) = true)
    (bInvalidNumber : PySem.W.subIn K (.ref EInvalidNumber) (.type "BaseException") = some true)
    (tInvalidNumber : PySem.W.typeIn K (.ref EInvalidNumber) = some (.type "type"))
    (iInvalidNumber : PySem.W.isClsIn K EInvalidNumber = true)
    (sInvalidNumber : PySem.W.subIn K (.ref EInvalidNumber) (.ref EInvalidNumber) = some true)
    (nInvalidNumber : PySem.W.subIn K (.ref EInvalidNumber) (.type "StopIteration") = some false)
    (gInvalidPlan : PySem.W.nsIn K mainGlobals "InvalidPlan" = some (some (.ref EInvalidPlan)))
    (xInvalidPlan : K.lookup EInvalidPlan = some (excClassObj nmInvalidPlan qInvalidPlan EInvalidPlan NInvalidPlan bsInvalidPlan [.ref BInvalidPlan, .type "ValueError", .type "Exception", .type "BaseException", .type "object"] true snInvalidPlan subInvalidPlan abInvalidPlan colInvalidPlan ddInvalidPlan m0InvalidPlan m1InvalidPlan m2InvalidPlan m3InvalidPlan m5InvalidPlan "ValueError.__new__"))
    (kInvalidPlan : PySem.W.keepIn K (.ref EInvalidPlan) = true)
    (saInvalidPlan : PySem.W.findIn K (.ref EInvalidPlan) "__setattr__" = some (some (.builtin "object.__setattr__")))
    (gaInvalidPlan : PySem.W.findIn K (.ref EInvalidPlan) "__getattribute__" = some (some (.builtin "BaseException.__getattribute__")))
    (ggInvalidPlan : PySem.W.findIn K (.ref EInvalidPlan) "__getattr__" = some none)
    (nbInvalidPlan : PySem.W.findIn K (.ref EInvalidPlan) "index" = some none)
    (iInvalidPlan : PySem.W.findIn K (.ref EInvalidPlan) "__init__" = some (some (.ref fIInvalidPlan)))
    (tfInvalidPlan : PySem.W.typeIn K (.ref fIInvalidPlan) = some (.type "function"))
    (bInvalidPlan : PySem.W.subIn K (.ref EInvalidPlan) (.type "BaseException") = some true)
    (tInvalidPlan : PySem.W.typeIn K (.ref EInvalidPlan) = some (.type "type"))
    (hdInvalidPlan : PySem.W.hasDictIn K EInvalidPlan = true)
    (icInvalidPlan : PySem.W.isClsIn K EInvalidPlan = true)
    (sInvalidPlan : PySem.W.subIn K (.ref EInvalidPlan) (.ref EInvalidPlan) = some true)
    (svInvalidPlan : PySem.W.subIn K (.ref EInvalidPlan) (.type "ValueError") = some true)
    (suInvalidPlan : PySem.W.ks_superIn K EInvalidPlan EInvalidPlan "__init__" = some (some (.builtin "ValueError.__init__")))
    (opInvalidPlan : PySem.W.nsIn K cStatics "thirdparty.any" = some none)
    (zsInvalidPlan : PySem.W.nsIn K mainGlobals "super" = some none)
    (htInvalidPlan : (P.main.scope.names.lookup ("super" : Str)).isSome = false)
    (lInvalidPlan : K.lookup fIInvalidPlan = some ⟨ocInvalidPlan, odInvalidPlan, .func (PySem.W.ksFn "__init__" "InvalidPlan.__init__" (PySem.EiX.iA p1InvalidPlan p2InvalidPlan) (PySem.EiX.iB t1InvalidPlan t2InvalidPlan a1InvalidPlan a2InvalidPlan a3InvalidPlan a4InvalidPlan a5InvalidPlan a6InvalidPlan a7InvalidPlan a8InvalidPlan a9InvalidPlan a10InvalidPlan b1InvalidPlan b2InvalidPlan b3InvalidPlan b4InvalidPlan) PySem.EiX.iS .none kVInvalidPlan dcInvalidPlan pmInvalidPlan anInvalidPlan (.ref cdaInvalidPlan) ctInvalidPlan ccInvalidPlan), slInvalidPlan⟩)
    (cInvalidPlan : PySem.W.codeIn K (.ref cdaInvalidPlan) "InvalidPlan.__init__" = true)
    (lcInvalidPlan : K.lookup ccInvalidPlan = some ⟨clInvalidPlan, cldInvalidPlan, .cell (some (.ref EInvalidPlan)), cslInvalidPlan⟩)
    (ldInvalidPlan : K.lookup cdaInvalidPlan = some ⟨cclInvalidPlan, cddInvalidPlan, .fields vsInvalidPlan, ccsInvalidPlan⟩)
    (vfInvalidPlan : vsInvalidPlan[2]? = some (.str fileInvalidPlan tkInvalidPlan))
    (fiInvalidPlan : ((P.main.file : Str) == fileInvalidPlan) = true)
    (u1InvalidPlan : t1InvalidPlan.length ≤ 1000)
    (u2InvalidPlan : t2InvalidPlan.length ≤ 1000)
    (lnInvalidPlan : (a3InvalidPlan.endLine == a9InvalidPlan.line) = true)
    (gTooFewChairs : PySem.W.nsIn K mainGlobals "TooFewChairs" = some (some (.ref ETooFewChairs)))
    (xTooFewChairs : K.lookup ETooFewChairs = some (excClassObj nmTooFewChairs qTooFewChairs ETooFewChairs NTooFewChairs bsTooFewChairs [.ref BTooFewChairs, .type "ValueError", .type "Exception", .type "BaseException", .type "object"] true snTooFewChairs subTooFewChairs abTooFewChairs colTooFewChairs ddTooFewChairs m0TooFewChairs m1TooFewChairs m2TooFewChairs m3TooFewChairs m5TooFewChairs "ValueError.__new__"))
    (kTooFewChairs : PySem.W.keepIn K (.ref ETooFewChairs) = true)
    (saTooFewChairs : PySem.W.findIn K (.ref ETooFewChairs) "__setattr__" = some (some (.builtin "object.__setattr__")))
    (gaTooFewChairs : PySem.W.findIn K (.ref ETooFewChairs) "__getattribute__" = some (some (.builtin "BaseException.__getattribute__")))
    (ggTooFewChairs : PySem.W.findIn K (.ref ETooFewChairs) "__getattr__" = some none)
    (nbTooFewChairs : PySem.W.findIn K (.ref ETooFewChairs) "index" = some none)
    (iTooFewChairs : PySem.W.findIn K (.ref ETooFewChairs) "__init__" = some (some (.ref fITooFewChairs)))
    (tfTooFewChairs : PySem.W.typeIn K (.ref fITooFewChairs) = some (.type "function"))
    (bTooFewChairs : PySem.W.subIn K (.ref ETooFewChairs) (.type "BaseException") = some true)
    (tTooFewChairs : PySem.W.typeIn K (.ref ETooFewChairs) = some (.type "type"))
    (hdTooFewChairs : PySem.W.hasDictIn K ETooFewChairs = true)
    (icTooFewChairs : PySem.W.isClsIn K ETooFewChairs = true)
    (sTooFewChairs : PySem.W.subIn K (.ref ETooFewChairs) (.ref ETooFewChairs) = some true)
    (svTooFewChairs : PySem.W.subIn K (.ref ETooFewChairs) (.type "ValueError") = some true)
    (suTooFewChairs : PySem.W.ks_superIn K ETooFewChairs ETooFewChairs "__init__" = some (some (.builtin "ValueError.__init__")))
    (opTooFewChairs : PySem.W.nsIn K cStatics "thirdparty.any" = some none)
    (zsTooFewChairs : PySem.W.nsIn K mainGlobals "super" = some none)
    (htTooFewChairs : (P.main.scope.names.lookup ("super" : Str)).isSome = false)
    (lTooFewChairs : K.lookup fITooFewChairs = some ⟨ocTooFewChairs, odTooFewChairs, .func (PySem.W.ksFn "__init__" "TooFewChairs.__init__" (PySem.EiX.iA p1TooFewChairs p2TooFewChairs) (PySem.EiX.iB t1TooFewChairs t2TooFewChairs a1TooFewChairs a2TooFewChairs a3TooFewChairs a4TooFewChairs a5TooFewChairs a6TooFewChairs a7TooFewChairs a8TooFewChairs a9TooFewChairs a10TooFewChairs b1TooFewChairs b2TooFewChairs b3TooFewChairs b4TooFewChairs) PySem.EiX.iS .none kVTooFewChairs dcTooFewChairs pmTooFewChairs anTooFewChairs (.ref cdaTooFewChairs) ctTooFewChairs ccTooFewChairs), slTooFewChairs⟩)
    (cTooFewChairs : PySem.W.codeIn K (.ref cdaTooFewChairs) "TooFewChairs.__init__" = true)
    (lcTooFewChairs : K.lookup ccTooFewChairs = some ⟨clTooFewChairs, cldTooFewChairs, .cell (some (.ref ETooFewChairs)), cslTooFewChairs⟩)
    (ldTooFewChairs : K.lookup cdaTooFewChairs = some ⟨cclTooFewChairs, cddTooFewChairs, .fields vsTooFewChairs, ccsTooFewChairs⟩)
    (vfTooFewChairs : vsTooFewChairs[2]? = some (.str fileTooFewChairs tkTooFewChairs))
    (fiTooFewChairs : ((P.main.file : Str) == fileTooFewChairs) = true)
    (u1TooFewChairs : t1TooFewChairs.length ≤ 1000)
    (u2TooFewChairs : t2TooFewChairs.length ≤ 1000)
    (lnTooFewChairs : (a3TooFewChairs.endLine == a9TooFewChairs.line) = true)
    (pAtu : PySem.W.findIn K (.ref C) "is_turning" = some (some (.ref Ptu)))
    (pGtu : PySem.W.specialIn K (.ref Ptu) "__get__" = some (some (.builtin "property.__get__")))
    (pTtu : PySem.W.takesIn K (.ref Ptu) = some true)
    (pRtu : PySem.W.recIn K Ptu "property" = some (.ref ftu :: rstu))
    (ltu : K.lookup ftu = some ⟨octu, odtu, .func (PySem.W.fnOf "is_turning" "Plan.is_turning" (defArgs s_Plan_is_turning) (defBody s_Plan_is_turning) (defScope s_Plan_is_turning) .none kVtu dctu pmtu antu cdtu cttu), sltu⟩)
    (ctu : PySem.W.codeIn K cdtu "Plan.is_turning" = true)
    (ktu : PySem.W.keepIn K (.ref ftu) = true)
    (dXInvalidNumber : PySem.W.hasDictIn K EInvalidNumber = true)
    (sPN : PySem.W.subIn K (.ref EInvalidPlan) (.ref EInvalidNumber) = some false)
    (sTN : PySem.W.subIn K (.ref ETooFewChairs) (.ref EInvalidNumber) = some false)
    (sTP : PySem.W.subIn K (.ref ETooFewChairs) (.ref EInvalidPlan) = some false)
    (pA : PySem.W.findIn K (.ref C) "steps" = some (some (.ref pS)))
    (pG : PySem.W.specialIn K (.ref pS) "__get__" = some (some (.builtin "property.__get__")))
    (pT : PySem.W.takesIn K (.ref pS) = some true)
    (pR : PySem.W.recIn K pS "property" = some (.ref fmst :: rs))
    (lmst : K.lookup fmst = some ⟨ocmst, odmst, .func (PySem.W.fnOf "steps" "Plan.steps" (defArgs sSteps) (defBody sSteps) (defScope sSteps) .none kVmst dcmst pmmst anmst cdmst ctmst), slmst⟩)
    (cmst : PySem.W.codeIn K cdmst "Plan.steps" = true)
    (kmst : PySem.W.keepIn K (.ref fmst) = true)
    (pg : PySem.W.plainGet K C Str.empty = true)
    (hd : PySem.W.hasDictIn K C = true)
    (po : PySem.W.plainOver K C = true)
    (sa : PySem.W.findIn K (.ref C) "__setattr__" = some (some (.builtin "object.__setattr__")))
    (mk : PySem.W.makesIn K C = true)
    (kc : PySem.W.keepIn K (.ref C) = true)
    (nS : PySem.W.findIn K (.ref C) "step_tuple" = some none)
    (rd : PySem.W.readsIn K C (.type "type") = true)
    (ga : PySem.W.specialIn K (.ref C) "__getattribute__" = some (some (.builtin "type.__getattribute__")))
    (v1 : PySem.W.findCls K (.ref C) (.type "type") "MAX_STEPS" = some (.val (.int 60 t1)))
    (v2 : PySem.W.findCls K (.ref C) (.type "type") "MAX_CHAIRS" = some (.val (.int 1000000000000000000 t2)))
    (w2 : PySem.W.findIn K (.ref C) "MAX_CHAIRS" = some (some (.int 1000000000000000000 t3)))
    (w3 : PySem.W.specialIn K (.int 1000000000000000000 t3) "__get__" = some none)
    (aT : PySem.W.nsIn K mainGlobals "TURN" = some (some (.ref TU)))
    (lT : K.lookup TU = some ⟨.type "tuple", dT, .seq #[.str "turn" t4] nT, slT⟩)
    (q_MAX_ROUNDS : PySem.W.nsIn K mainGlobals "MAX_ROUNDS" = some (some (.int 1000000000000000000 t_MAX_ROUNDS)))
    (hne0 : PT0 ≠ PT)
    (z0 : PySem.W.nsIn K mainGlobals "isinstance" = some none)
    (z1 : PySem.W.nsIn K mainGlobals "int" = some none)
    (z2 : PySem.W.nsIn K mainGlobals "bool" = some none)
    (z3 : PySem.W.nsIn K mainGlobals "tuple" = some none)
    (z4 : PySem.W.nsIn K mainGlobals "list" = some none)
    (z5 : PySem.W.nsIn K mainGlobals "len" = some none)
    (z6 : PySem.W.nsIn K mainGlobals "max" = some none)
    (z7 : PySem.W.nsIn K mainGlobals "min" = some none)
    (z8 : PySem.W.nsIn K mainGlobals "abs" = some none)
    (z9 : PySem.W.nsIn K mainGlobals "enumerate" = some none)
    (z10 : PySem.W.nsIn K mainGlobals "range" = some none)
    (z11 : PySem.W.nsIn K mainGlobals "sum" = some none)
    (z12 : PySem.W.nsIn K mainGlobals "sorted" = some none)
    (z13 : PySem.W.nsIn K mainGlobals "divmod" = some none)
    (z14 : PySem.W.nsIn K mainGlobals "zip" = some none)
    (z15 : PySem.W.nsIn K mainGlobals "str" = some none)
    (z16 : PySem.W.nsIn K mainGlobals "dict" = some none)
    (z17 : PySem.W.nsIn K mainGlobals "ValueError" = some none)
    (z18 : PySem.W.nsIn K mainGlobals "any" = some none)
    : ∃ (fd : FuncData) (cts : List (Addr × Addr)), (∀ u ∈ cts, ∃ y ∈ (["law", "_law_refused"] : List Str), PySem.W.tabIn K y = some u ∧ K.lookup u.2 = none) ∧ (∀ (s : Shared) (v : Value), BindsTo s fd ⟨[v], []⟩ [("_law_script", v)]) ∧ ∀ base : Heap, K.In base → base.Ns mainGlobals mg → (∀ u ∈ cts, TabB base mg u.1 u.2) → FnOk P w K mg base CX0 11 fa fd ["_law_script"] (spLawTs K (cts.map (·.2))) := by
  have e := hfa.symm.trans (PySem.W.mg_of X G a_law)
  cases e
  have Bb : Bt mg := ⟨PySem.W.mg_none_of X G z0, PySem.W.mg_none_of X G z1, PySem.W.mg_none_of X G z2, PySem.W.mg_none_of X G z3, PySem.W.mg_none_of X G z4, PySem.W.mg_none_of X G z5, PySem.W.mg_none_of X G z6, PySem.W.mg_none_of X G z7, PySem.W.mg_none_of X G z8, PySem.W.mg_none_of X G z9, PySem.W.mg_none_of X G z10, PySem.W.mg_none_of X G z11, PySem.W.mg_none_of X G z12, PySem.W.mg_none_of X G z13, PySem.W.mg_none_of X G z14, PySem.W.mg_none_of X G z15, PySem.W.mg_none_of X G z16, PySem.W.mg_none_of X G z17, PySem.W.mg_none_of X G z18⟩
  have F_is_whole := fun_mk (st := sIsWhole) l_is_whole c_is_whole k_is_whole
  have F_is_number := fun_mk (st := sIsNum) l_is_number c_is_number k_is_number
  have F_check_number := fun_mk (st := sChkNum) l_check_number c_check_number k_check_number
  have F_check_house := fun_mk (st := sChkHouse) l_check_house c_check_house k_check_house
  have F_is_step := fun_mk (st := sIsStep) l_is_step c_is_step k_is_step
  have F__law_start := fun_mk (st := sStart) l__law_start c__law_start k__law_start
  have F__law_drawn := fun_mk (st := sDrawn) l__law_drawn c__law_drawn k__law_drawn
  have F__law_random_steps := fun_mk (st := sRnd) l__law_random_steps c__law_random_steps k__law_random_steps
  have F__law_plan := fun_mk (st := sLPlan) l__law_plan c__law_plan k__law_plan
  have F_after_step := fun_mk (st := sAStep) l_after_step c_after_step k_after_step
  have F_after_steps := fun_mk (st := sASteps) l_after_steps c_after_steps k_after_steps
  have F_few_rounds := fun_mk (st := s_few_rounds) l_few_rounds c_few_rounds k_few_rounds
  have F_after_rounds := fun_mk (st := s_after_rounds) l_after_rounds c_after_rounds k_after_rounds
  have F_check_start := fun_mk (st := s_check_start) l_check_start c_check_start k_check_start
  have F_checked_rounds := fun_mk (st := s_checked_rounds) l_checked_rounds c_checked_rounds k_checked_rounds
  have F_total_carried := fun_mk (st := s_total_carried) l_total_carried c_total_carried k_total_carried
  have F_red_chairs := fun_mk (st := s_red_chairs) l_red_chairs c_red_chairs k_red_chairs
  have F_allowed_range := fun_mk (st := sAllow) l_allowed_range c_allowed_range k_allowed_range
  have F_narrowed := fun_mk (st := sNarrow) l_narrowed c_narrowed k_narrowed
  have F_nearest := fun_mk (st := sNear) l_nearest c_nearest k_nearest
  have F_effect_of := fun_mk (st := sEffect) l_effect_of c_effect_of k_effect_of
  have F_summary := fun_mk (st := s_summary) l_summary c_summary k_summary
  have F_telling_starts := fun_mk (st := sTell) l_telling_starts c_telling_starts k_telling_starts
  have F_first_difference := fun_mk (st := sFirst) l_first_difference c_first_difference k_first_difference
  have F_settled_carrying := fun_mk (st := s_settled_carrying) l_settled_carrying c_settled_carrying k_settled_carrying
  have F__law_few := fun_mk (st := s__law_few) l__law_few c__law_few k__law_few
  have F__law_is_step := fun_mk (st := s__law_is_step) l__law_is_step c__law_is_step k__law_is_step
  have F__law_bad_step := fun_mk (st := s__law_bad_step) l__law_bad_step c__law_bad_step k__law_bad_step
  have F__law_refused := fun_mk (st := s__law_refused) l__law_refused c__law_refused k__law_refused
  have F__law_outcome := fun_mk (st := sOutcome) l__law_outcome c__law_outcome k__law_outcome
  have F_long_run := fun_mk (st := s_long_run) l_long_run c_long_run k_long_run
  have F_saving := fun_mk (st := s_saving) l_saving c_saving k_saving
  have Fminit := fun_mk (st := sInit) lminit cminit kminit
  have Fmjoined := fun_mk (st := sJoined) lmjoined cmjoined kmjoined
  have Fmst := fun_mk (st := sSteps) lmst cmst kmst
  have b_is_whole := F_is_whole.binds (ps := ["value"]) fun _ _ _ _ _ _ us hl => match us, hl with | [_], _ => rfl
  have b_is_number := F_is_number.binds (ps := ["value", "least", "most"]) fun _ _ _ _ _ _ us hl => match us, hl with | [_, _, _], _ => rfl
  have b_check_number := F_check_number.binds (ps := ["value", "least", "most"]) fun _ _ _ _ _ _ us hl => match us, hl with | [_, _, _], _ => rfl
  have b_check_house := F_check_house.binds (ps := ["plan", "chairs"]) fun _ _ _ _ _ _ us hl => match us, hl with | [_, _], _ => rfl
  have b_is_step := F_is_step.binds (ps := ["step"]) fun _ _ _ _ _ _ us hl => match us, hl with | [_], _ => rfl
  have b__law_start := F__law_start.binds (ps := ["_law_script"]) fun _ _ _ _ _ _ us hl => match us, hl with | [_], _ => rfl
  have b__law_drawn := F__law_drawn.binds (ps := ["_law_state", "_law_count"]) fun _ _ _ _ _ _ us hl => match us, hl with | [_, _], _ => rfl
  have b__law_random_steps := F__law_random_steps.binds (ps := ["_law_state", "_law_most", "_law_high"]) fun _ _ _ _ _ _ us hl => match us, hl with | [_, _, _], _ => rfl
  have b__law_plan := F__law_plan.binds (ps := ["_law_steps"]) fun _ _ _ _ _ _ us hl => match us, hl with | [_], _ => rfl
  have b_after_step := F_after_step.binds (ps := ["step", "chairs", "red"]) fun _ _ _ _ _ _ us hl => match us, hl with | [_, _, _], _ => rfl
  have b_after_steps := F_after_steps.binds (ps := ["steps", "chairs", "red"]) fun _ _ _ _ _ _ us hl => match us, hl with | [_, _, _], _ => rfl
  have b_few_rounds := F_few_rounds.binds (ps := ["rounds"]) fun _ _ _ _ _ _ us hl => match us, hl with | [_], _ => rfl
  have b_after_rounds := F_after_rounds.binds (ps := ["plan", "chairs", "red", "rounds"]) fun _ _ _ _ _ _ us hl => match us, hl with | [_, _, _, _], _ => rfl
  have b_check_start := F_check_start.binds (ps := ["plan", "chairs", "start"]) fun _ _ _ _ _ _ us hl => match us, hl with | [_, _, _], _ => rfl
  have b_checked_rounds := F_checked_rounds.binds (ps := ["plan", "chairs", "start", "rounds"]) fun _ _ _ _ _ _ us hl => match us, hl with | [_, _, _, _], _ => rfl
  have b_total_carried := F_total_carried.binds (ps := ["plan", "chairs", "start", "rounds"]) fun _ _ _ _ _ _ us hl => match us, hl with | [_, _, _, _], _ => rfl
  have b_red_chairs := F_red_chairs.binds (ps := ["plan", "chairs", "start", "rounds"]) fun _ _ _ _ _ _ us hl => match us, hl with | [_, _, _, _], _ => rfl
  have b_allowed_range := F_allowed_range.binds (ps := ["step", "chairs", "turned"]) fun _ _ _ _ _ _ us hl => match us, hl with | [_, _, _], _ => rfl
  have b_narrowed := F_narrowed.binds (ps := ["low", "high", "least", "most"]) fun _ _ _ _ _ _ us hl => match us, hl with | [_, _, _, _], _ => rfl
  have b_nearest := F_nearest.binds (ps := ["number", "least", "most"]) fun _ _ _ _ _ _ us hl => match us, hl with | [_, _, _], _ => rfl
  have b_effect_of := F_effect_of.binds (ps := ["steps", "chairs"]) fun _ _ _ _ _ _ us hl => match us, hl with | [_, _], _ => rfl
  have b_summary := F_summary.binds (ps := ["plan", "chairs"]) fun _ _ _ _ _ _ us hl => match us, hl with | [_, _], _ => rfl
  have b_telling_starts := F_telling_starts.binds (ps := ["plan", "other", "chairs"]) fun _ _ _ _ _ _ us hl => match us, hl with | [_, _, _], _ => rfl
  have b_first_difference := F_first_difference.binds (ps := ["plan", "other", "chairs"]) fun _ _ _ _ _ _ us hl => match us, hl with | [_, _, _], _ => rfl
  have b_settled_carrying := F_settled_carrying.binds (ps := ["plan", "chairs"]) fun _ _ _ _ _ _ us hl => match us, hl with | [_, _], _ => rfl
  have b__law_few := F__law_few.binds (ps := ["_law_steps", "_law_chairs"]) fun _ _ _ _ _ _ us hl => match us, hl with | [_, _], _ => rfl
  have b__law_is_step := F__law_is_step.binds (ps := ["_law_step"]) fun _ _ _ _ _ _ us hl => match us, hl with | [_], _ => rfl
  have b__law_bad_step := F__law_bad_step.binds (ps := ["_law_state"]) fun _ _ _ _ _ _ us hl => match us, hl with | [_], _ => rfl
  have b__law_refused := F__law_refused.binds (ps := ["_law_plan_here", "_law_steps", "_law_chairs"]) fun _ _ _ _ _ _ us hl => match us, hl with | [_, _, _], _ => rfl
  have b__law_outcome := F__law_outcome.binds (ps := ["_law_work"]) fun _ _ _ _ _ _ us hl => match us, hl with | [_], _ => rfl
  have b_long_run := F_long_run.binds (ps := ["plan", "chairs"]) fun _ _ _ _ _ _ us hl => match us, hl with | [_, _], _ => rfl
  have b_saving := F_saving.binds (ps := ["plan", "chairs"]) fun _ _ _ _ _ _ us hl => match us, hl with | [_, _], _ => rfl
  have bmst := Fmst.binds (ps := ["self"]) fun _ _ _ _ _ _ us hl => match us, hl with | [_], _ => rfl
  have Tt : Txt K mg C TU pS fmst (.type "type") := ⟨Bb, ⟨pg, hd, po, sa⟩, nS, PySem.W.mg_of X G aC, ⟨rd, ga⟩, ⟨_, v1, _, rfl⟩, ⟨_, v2, _, rfl⟩, ⟨_, w2, ⟨_, rfl⟩, w3, rfl⟩, PySem.W.mg_of X G aT,
    fun H => .inr ⟨_, _, _, lT, rfl, rfl, by show 1 ≤ sizeLine; decide, .cons ⟨_, rfl⟩ .nil⟩, ⟨pA, pG, pT, rs, pR⟩⟩
  refine ⟨PySem.W.fnOf "law" "law" (defArgs sLaw) (defBody sLaw) (defScope sLaw) .none kV_law dc_law pm_law an_law (.ref cL) ct_law, [(cL, PT), (cL0, PT0)], fun u hu => ?_, fun s v => .of_eq rfl, fun base _ _ TB => ?_⟩
  · rcases List.mem_cons.mp hu with z | z
    · rw [z]
      exact ⟨"law", List.mem_cons_self, tab_mk a_law l_law rfl lC v11, tN⟩
    · rw [(List.mem_singleton.mp z)]
      exact ⟨"_law_refused", List.mem_cons_of_mem _ List.mem_cons_self, tab_mk a__law_refused l__law_refused rfl lC0 v110, tN0⟩
  have TBL : TabB base mg cL PT := TB _ List.mem_cons_self
  have TBD : TabB base mg cL0 PT0 := TB _ (List.mem_cons_of_mem _ List.mem_cons_self)
  have hmT : (PT0, q__law_refused) ∈ TTs PT PT0 := List.mem_cons_of_mem _ List.mem_cons_self
  have huT : ∀ p ∈ TTs PT PT0, p.1 = PT0 → p.2 = q__law_refused := fun p hp e => (List.mem_cons.mp hp).elim (fun z => by rw [z] at e; exact absurd e.symm hne0) fun z => by rw [List.mem_singleton.mp z]
  have at_ := fun {x : Str} {f : Addr} (a : PySem.W.nsIn K mainGlobals x = some (some (.ref f))) => PySem.W.mg_of X G a
  have Gg : Gs P w K mg base C fmst _ := ⟨ok_steps Fmst Tt, bmst⟩
  have Mm : Mk K C fminit := ⟨mk, aminit, iminit, kc⟩
  have Mj : Meth K C "joined" fmjoined := ⟨amjoined, imjoined, kmjoined⟩
  have D_is_whole := dn_mk (P := P) (w := w) (base := base) (at_ a_is_whole) k_is_whole (ok_iswhole F_is_whole Bb) b_is_whole
  have D_is_number := dn_mk (P := P) (w := w) (base := base) (at_ a_is_number) k_is_number (ok_isnum F_is_number D_is_whole) b_is_number
  have D_check_number := dn_mk (P := P) (w := w) (base := base) (at_ a_check_number) k_check_number (ok_chknum F_check_number D_is_number) b_check_number
  have D_check_house := dn_mk (P := P) (w := w) (base := base) (at_ a_check_house) k_check_house (ok_chkhouse F_check_house Tt Gg D_check_number) b_check_house
  have D_is_step := dn_mk (P := P) (w := w) (base := base) (at_ a_is_step) k_is_step (ok_isstep F_is_step Tt D_is_number) b_is_step
  have GI := ok_init Fminit Tt D_is_step
  have GJ := ok_joined Fmjoined Tt Gg Mm GI
  have Fmalt := fun_mk (st := sAlt) lmalt cmalt kmalt
  have GA := ok_alt (P := P) (w := w) (base := base) Fmalt Tt Mm GI
  have CA : ClX.CMet K C (.type "type") "alternating" pA2 fmalt := ⟨cA, ⟨rs2, cB⟩, cC⟩
  have D__law_start := dn_mk (P := P) (w := w) (base := base) (at_ a__law_start) k__law_start (ok_start F__law_start ) b__law_start
  have D__law_drawn := dn_mk (P := P) (w := w) (base := base) (at_ a__law_drawn) k__law_drawn (ok_drawn F__law_drawn Bb) b__law_drawn
  have D__law_random_steps := dn_mk (P := P) (w := w) (base := base) (at_ a__law_random_steps) k__law_random_steps (ok_rnd F__law_random_steps Bb D__law_drawn) b__law_random_steps
  have D__law_plan := dn_mk (P := P) (w := w) (base := base) (at_ a__law_plan) k__law_plan (ok_lplan F__law_plan Tt Mm GI Mj GJ) b__law_plan
  have D_after_step := dn_mk (P := P) (w := w) (base := base) (at_ a_after_step) k_after_step (ok_astep F_after_step Tt) b_after_step
  have D_after_steps := dn_mk (P := P) (w := w) (base := base) (at_ a_after_steps) k_after_steps (ok_asteps F_after_steps D_after_step) b_after_steps
  have D_few_rounds := dn_mk (P := P) (w := w) (base := base) (at_ a_few_rounds) k_few_rounds (ok_few_rounds F_few_rounds ) b_few_rounds
  have D_after_rounds := dn_mk (P := P) (w := w) (base := base) (at_ a_after_rounds) k_after_rounds (ok_after_rounds F_after_rounds Tt Gg D_few_rounds D_after_steps) b_after_rounds
  have D_check_start := dn_mk (P := P) (w := w) (base := base) (at_ a_check_start) k_check_start (ok_check_start F_check_start D_check_house D_check_number) b_check_start
  have D_checked_rounds := dn_mk (P := P) (w := w) (base := base) (at_ a_checked_rounds) k_checked_rounds (ok_checked_rounds F_checked_rounds ⟨_, PySem.W.mg_of X G q_MAX_ROUNDS, ⟨_, rfl⟩⟩ D_check_start D_check_number D_after_rounds) b_checked_rounds
  have D_total_carried := dn_mk (P := P) (w := w) (base := base) (at_ a_total_carried) k_total_carried (ok_total_carried F_total_carried D_checked_rounds) b_total_carried
  have D_red_chairs := dn_mk (P := P) (w := w) (base := base) (at_ a_red_chairs) k_red_chairs (ok_red_chairs F_red_chairs D_checked_rounds) b_red_chairs
  have D_allowed_range := dn_mk (P := P) (w := w) (base := base) (at_ a_allowed_range) k_allowed_range (ok_allow F_allowed_range ) b_allowed_range
  have D_narrowed := dn_mk (P := P) (w := w) (base := base) (at_ a_narrowed) k_narrowed (ok_narrow F_narrowed Bb) b_narrowed
  have D_nearest := dn_mk (P := P) (w := w) (base := base) (at_ a_nearest) k_nearest (ok_near F_nearest Bb) b_nearest
  have D_effect_of := dn_mk (P := P) (w := w) (base := base) (at_ a_effect_of) k_effect_of (ok_effect F_effect_of Tt D_allowed_range D_narrowed D_nearest) b_effect_of
  have D_summary := dn_mk (P := P) (w := w) (base := base) (at_ a_summary) k_summary (ok_summary F_summary Tt Gg D_check_house D_effect_of) b_summary
  have D_telling_starts := dn_mk (P := P) (w := w) (base := base) (at_ a_telling_starts) k_telling_starts (ok_tell F_telling_starts Tt D_summary) b_telling_starts
  have D_first_difference := dn_mk (P := P) (w := w) (base := base) (at_ a_first_difference) k_first_difference (ok_first F_first_difference Tt Gg D_check_house D_telling_starts D_after_steps) b_first_difference
  have D_settled_carrying := dn_mk (P := P) (w := w) (base := base) (at_ a_settled_carrying) k_settled_carrying (ok_settled_carrying F_settled_carrying D_after_rounds) b_settled_carrying
  have D__law_few := dn_mk (P := P) (w := w) (base := base) (at_ a__law_few) k__law_few (ok__law_few F__law_few Bb) b__law_few
  have D__law_is_step := dn_mk (P := P) (w := w) (base := base) (at_ a__law_is_step) k__law_is_step (ok__law_is_step F__law_is_step Bb) b__law_is_step
  have D__law_bad_step := dn_mk (P := P) (w := w) (base := base) (at_ a__law_bad_step) k__law_bad_step (ok__law_bad_step F__law_bad_step D__law_drawn) b__law_bad_step
  have ERInvalidNumber : Err K mg "InvalidNumber" EInvalidNumber := ⟨PySem.W.mg_of X G gInvalidNumber, kInvalidNumber, ⟨_, _, _, _, PySem.F.excBase_ValueError, xInvalidNumber⟩, bInvalidNumber, tInvalidNumber⟩
  have EXInvalidNumber : PySem.W.exmOne K (.ref EInvalidNumber) (.ref EInvalidNumber) = some true := exm_own bInvalidNumber iInvalidNumber tInvalidNumber sInvalidNumber
  have XTInvalidPlan : PySem.EiX.EiTxt P K mg "InvalidPlan" EInvalidPlan fIInvalidPlan := ⟨PySem.W.mg_of X G gInvalidPlan, kInvalidPlan, ⟨_, _, _, _, _, _, _, _, _, _, _, _, _, _, _, xInvalidPlan, by show PySem.HandSPX.refsVE PySem.HandSPX.veTail = true; decide +kernel⟩, saInvalidPlan, nbInvalidPlan, iInvalidPlan, tfInvalidPlan, bInvalidPlan, tInvalidPlan, svInvalidPlan, suInvalidPlan, opInvalidPlan, PySem.W.mg_none_of X G zsInvalidPlan, htInvalidPlan,
    ⟨ccInvalidPlan, cdaInvalidPlan, _, _, _, _, _, _, _, _, _, _, _, _, _, _, _, _, _, _, _, _, _, _, _, _, _, _, _, _, _, _, _, _, _, _, _, _, lInvalidPlan, cInvalidPlan, lcInvalidPlan, ldInvalidPlan, vfInvalidPlan, fiInvalidPlan, u1InvalidPlan, u2InvalidPlan, lnInvalidPlan⟩⟩
  have XFInvalidPlan : XfC K EInvalidPlan := ⟨gaInvalidPlan, ggInvalidPlan, bInvalidPlan, hdInvalidPlan⟩
  have EXInvalidPlan : PySem.W.exmOne K (.ref EInvalidPlan) (.ref EInvalidPlan) = some true := exm_own bInvalidPlan icInvalidPlan tInvalidPlan sInvalidPlan
  have XTTooFewChairs : PySem.EiX.EiTxt P K mg "TooFewChairs" ETooFewChairs fITooFewChairs := ⟨PySem.W.mg_of X G gTooFewChairs, kTooFewChairs, ⟨_, _, _, _, _, _, _, _, _, _, _, _, _, _, _, xTooFewChairs, by show PySem.HandSPX.refsVE PySem.HandSPX.veTail = true; decide +kernel⟩, saTooFewChairs, nbTooFewChairs, iTooFewChairs, tfTooFewChairs, bTooFewChairs, tTooFewChairs, svTooFewChairs, suTooFewChairs, opTooFewChairs, PySem.W.mg_none_of X G zsTooFewChairs, htTooFewChairs,
    ⟨ccTooFewChairs, cdaTooFewChairs, _, _, _, _, _, _, _, _, _, _, _, _, _, _, _, _, _, _, _, _, _, _, _, _, _, _, _, _, _, _, _, _, _, _, _, _, lTooFewChairs, cTooFewChairs, lcTooFewChairs, ldTooFewChairs, vfTooFewChairs, fiTooFewChairs, u1TooFewChairs, u2TooFewChairs, lnTooFewChairs⟩⟩
  have XFTooFewChairs : XfC K ETooFewChairs := ⟨gaTooFewChairs, ggTooFewChairs, bTooFewChairs, hdTooFewChairs⟩
  have EXTooFewChairs : PySem.W.exmOne K (.ref ETooFewChairs) (.ref ETooFewChairs) = some true := exm_own bTooFewChairs icTooFewChairs tTooFewChairs sTooFewChairs
  have Ftu := fun_mk (st := s_Plan_is_turning) ltu ctu ktu
  have btu := Ftu.binds (ps := ["self"]) fun _ _ _ _ _ _ us hl => match us, hl with | [_], _ => rfl
  have Qtu : PropOf K C "is_turning" Ptu ftu := ⟨pAtu, pGtu, pTtu, rstu, pRtu⟩
  have DX_check_number := dnx_mk (P := P) (w := w) (base := base) (at_ a_check_number) k_check_number (ok_numx F_check_number D_is_number ERInvalidNumber) b_check_number
  have DX_check_house := dnx_mk (P := P) (w := w) (base := base) (at_ a_check_house) k_check_house (ok_housea F_check_house Tt Gg DX_check_number XTTooFewChairs) b_check_house
  have DX_check_start := dnx_mk (P := P) (w := w) (base := base) (at_ a_check_start) k_check_start (okx_check_start F_check_start DX_check_house DX_check_number) b_check_start
  have DX_checked_rounds := dnx_mk (P := P) (w := w) (base := base) (at_ a_checked_rounds) k_checked_rounds (okx_checked_rounds F_checked_rounds ⟨_, PySem.W.mg_of X G q_MAX_ROUNDS, ⟨_, rfl⟩⟩ D_after_rounds DX_check_start DX_check_number) b_checked_rounds
  have DX_total_carried := dnx_mk (P := P) (w := w) (base := base) (at_ a_total_carried) k_total_carried (okx_total_carried F_total_carried DX_checked_rounds) b_total_carried
  have DX_red_chairs := dnx_mk (P := P) (w := w) (base := base) (at_ a_red_chairs) k_red_chairs (okx_red_chairs F_red_chairs DX_checked_rounds) b_red_chairs
  have DX_summary := dnx_mk (P := P) (w := w) (base := base) (at_ a_summary) k_summary (okx_summary F_summary Tt Gg D_effect_of DX_check_house) b_summary
  have DX_long_run := dnx_mk (P := P) (w := w) (base := base) (at_ a_long_run) k_long_run (okx_long_run F_long_run D_settled_carrying DX_check_house) b_long_run
  have DX_saving := dnx_mk (P := P) (w := w) (base := base) (at_ a_saving) k_saving (okx_saving F_saving Tt DX_check_house DX_check_number) b_saving
  have DX_first_difference := dnx_mk (P := P) (w := w) (base := base) (at_ a_first_difference) k_first_difference (okx_first_difference F_first_difference DX_check_house) b_first_difference
  have D_isX := dn_mk (P := P) (w := w) (base := base) (at_ a_is_step) k_is_step (ok_isstepX F_is_step Tt D_is_number) b_is_step
  have D_isA : Dn P w K mg base 2 "is_step" f_is_step spIsStepA := ⟨D_is_step.at_, D_is_step.kp, fnr_two D_is_step.ok D_isX.ok⟩
  have GIA : FnR P w K mg base (L2.CX P w) 3 fminit (spInitA C EInvalidPlan) := fnr_and GI (ok_initX Fminit Tt D_isA XTInvalidPlan)
  have GJA : FnR P w K mg base (L2.CX P w) 5 fmjoined (spJoinA C EInvalidPlan) := ok_joinA Fmjoined Tt Gg Mm GIA
  have GTu := ok_Plan_is_turning (P := P) (w := w) (base := base) (mg := mg) Ftu Tt
  have NM : Nam3 mg EInvalidNumber EInvalidPlan ETooFewChairs := ⟨at_ gInvalidNumber, at_ gInvalidPlan, at_ gTooFewChairs⟩
  have KI : Kin3 K EInvalidNumber EInvalidPlan ETooFewChairs := ⟨EXInvalidNumber, PySem.W.exm_ref bInvalidNumber dXInvalidNumber tInvalidNumber sPN, EXInvalidPlan, PySem.W.exm_ref bInvalidNumber dXInvalidNumber tInvalidNumber sTN, PySem.W.exm_ref bInvalidPlan hdInvalidPlan tInvalidPlan sTP, EXTooFewChairs⟩
  have XI : Xt3 K EInvalidPlan ETooFewChairs := ⟨⟨XFInvalidPlan, nbInvalidPlan⟩, ⟨XFTooFewChairs, nbTooFewChairs⟩⟩
  have D__law_refused := dn_mk (P := P) (w := w) (base := base) (at_ a__law_refused) k__law_refused (ok__law_refused l__law_refused c__law_refused TBD hmT huT Tt Mm GI D__law_few D_first_difference F__law_outcome (at_ a__law_outcome) k__law_outcome b__law_outcome NM KI XI DX_summary DX_total_carried DX_red_chairs DX_long_run DX_saving DX_first_difference) b__law_refused
  exact ok_law l_law c_law TBL Tt Gg Mm GI CA GA D__law_start D__law_drawn D__law_random_steps D__law_plan D__law_bad_step D__law_is_step D__law_refused F__law_outcome (at_ a__law_outcome) k__law_outcome b__law_outcome NM KI XI Mj GJA Mm GIA Qtu GTu btu hne0
end Cc

open PySem PySem.W PyProof.Rows
set_option maxRecDepth 100000 in
set_option maxHeartbeats 0 in
theorem PySem.Challenge.cw_chaircarry_k01_invalid_plans_and_houses_holds : PySem.Challenge.rw_chaircarry_k01_invalid_plans_and_houses.Holds := by
  w_on; o_law; k_head; (case hw => w_witness2)
  k_fill
  refine Cc.walk_tabs (l := PySem.Challenge.rw_chaircarry_k01_invalid_plans_and_houses) (n := 63) (k := 11) (x := "_law_script") (sp := fun w Ts => Cc.spLawTs _ Ts) ["law", "_law_refused"] rfl (by decide) rfl ⟨rfl, by decide, by decide⟩ (fun w h Y => PySem.W.km_in_of Y) rfl ?F fun _ Ts H a ns hl hT hF => ⟨a, ns, rfl, hF, hl, hT, fun _ => rfl⟩
  case F =>
    intro w mg fa h KX G hmg
    refine' Cc.all_mk KX G hmg ?a_is_whole ?l_is_whole ?c_is_whole ?k_is_whole ?a_is_number ?l_is_number ?c_is_number ?k_is_number ?a_check_number ?l_check_number ?c_check_number ?k_check_number ?a_check_house ?l_check_house ?c_check_house ?k_check_house ?a_is_step ?l_is_step ?c_is_step ?k_is_step ?a__law_start ?l__law_start ?c__law_start ?k__law_start ?a__law_drawn ?l__law_drawn ?c__law_drawn ?k__law_drawn ?a__law_random_steps ?l__law_random_steps ?c__law_random_steps ?k__law_random_steps ?a__law_plan ?l__law_plan ?c__law_plan ?k__law_plan ?a_after_step ?l_after_step ?c_after_step ?k_after_step ?a_after_steps ?l_after_steps ?c_after_steps ?k_after_steps ?a_few_rounds ?l_few_rounds ?c_few_rounds ?k_few_rounds ?a_after_rounds ?l_after_rounds ?c_after_rounds ?k_after_rounds ?a_check_start ?l_check_start ?c_check_start ?k_check_start ?a_checked_rounds ?l_checked_rounds ?c_checked_rounds ?k_checked_rounds ?a_total_carried ?l_total_carried ?c_total_carried ?k_total_carried ?a_red_chairs ?l_red_chairs ?c_red_chairs ?k_red_chairs ?a_allowed_range ?l_allowed_range ?c_allowed_range ?k_allowed_range ?a_narrowed ?l_narrowed ?c_narrowed ?k_narrowed ?a_nearest ?l_nearest ?c_nearest ?k_nearest ?a_effect_of ?l_effect_of ?c_effect_of ?k_effect_of ?a_summary ?l_summary ?c_summary ?k_summary ?a_telling_starts ?l_telling_starts ?c_telling_starts ?k_telling_starts ?a_first_difference ?l_first_difference ?c_first_difference ?k_first_difference ?a_settled_carrying ?l_settled_carrying ?c_settled_carrying ?k_settled_carrying ?a__law_few ?l__law_few ?c__law_few ?k__law_few ?a__law_is_step ?l__law_is_step ?c__law_is_step ?k__law_is_step ?a__law_bad_step ?l__law_bad_step ?c__law_bad_step ?k__law_bad_step ?a__law_refused ?l__law_refused ?c__law_refused ?lC0 ?v110 ?tN0 ?k__law_refused ?a_law ?l_law ?c_law ?lC ?v11 ?tN ?k_law ?a__law_outcome ?l__law_outcome ?c__law_outcome ?k__law_outcome ?a_long_run ?l_long_run ?c_long_run ?k_long_run ?a_saving ?l_saving ?c_saving ?k_saving ?aC ?aminit ?iminit ?lminit ?cminit ?kminit ?amjoined ?imjoined ?lmjoined ?cmjoined ?kmjoined ?cA ?cB ?cC ?lmalt ?cmalt ?kmalt ?gInvalidNumber ?xInvalidNumber ?kInvalidNumber ?bInvalidNumber ?tInvalidNumber ?iInvalidNumber ?sInvalidNumber ?nInvalidNumber ?gInvalidPlan ?xInvalidPlan ?kInvalidPlan ?saInvalidPlan ?gaInvalidPlan ?ggInvalidPlan ?nbInvalidPlan ?iInvalidPlan ?tfInvalidPlan ?bInvalidPlan ?tInvalidPlan ?hdInvalidPlan ?icInvalidPlan ?sInvalidPlan ?svInvalidPlan ?suInvalidPlan ?opInvalidPlan ?zsInvalidPlan ?htInvalidPlan ?lInvalidPlan ?cInvalidPlan ?lcInvalidPlan ?ldInvalidPlan ?vfInvalidPlan ?fiInvalidPlan ?u1InvalidPlan ?u2InvalidPlan ?lnInvalidPlan ?gTooFewChairs ?xTooFewChairs ?kTooFewChairs ?saTooFewChairs ?gaTooFewChairs ?ggTooFewChairs ?nbTooFewChairs ?iTooFewChairs ?tfTooFewChairs ?bTooFewChairs ?tTooFewChairs ?hdTooFewChairs ?icTooFewChairs ?sTooFewChairs ?svTooFewChairs ?suTooFewChairs ?opTooFewChairs ?zsTooFewChairs ?htTooFewChairs ?lTooFewChairs ?cTooFewChairs ?lcTooFewChairs ?ldTooFewChairs ?vfTooFewChairs ?fiTooFewChairs ?u1TooFewChairs ?u2TooFewChairs ?lnTooFewChairs ?pAtu ?pGtu ?pTtu ?pRtu ?ltu ?ctu ?ktu ?dXInvalidNumber ?sPN ?sTN ?sTP ?pA ?pG ?pT ?pR ?lmst ?cmst ?kmst ?pg ?hd ?po ?sa ?mk ?kc ?nS ?rd ?ga ?v1 ?v2 ?w2 ?w3 ?aT ?lT ?q_MAX_ROUNDS ?hne0 ?z0 ?z1 ?z2 ?z3 ?z4 ?z5 ?z6 ?z7 ?z8 ?z9 ?z10 ?z11 ?z12 ?z13 ?z14 ?z15 ?z16 ?z17 ?z18
    (case a_is_whole => k_is); (case l_is_whole => k_is); (case c_is_whole => k_is); (case k_is_whole => k_is); (case a_is_number => k_is); (case l_is_number => k_is)
    (case c_is_number => k_is); (case k_is_number => k_is); (case a_check_number => k_is); (case l_check_number => k_is); (case c_check_number => k_is); (case k_check_number => k_is)
    (case a_check_house => k_is); (case l_check_house => k_is); (case c_check_house => k_is); (case k_check_house => k_is); (case a_is_step => k_is); (case l_is_step => k_is)
    (case c_is_step => k_is); (case k_is_step => k_is); (case a__law_start => k_is); (case l__law_start => k_is); (case c__law_start => k_is); (case k__law_start => k_is)
    (case a__law_drawn => k_is); (case l__law_drawn => k_is); (case c__law_drawn => k_is); (case k__law_drawn => k_is); (case a__law_random_steps => k_is); (case l__law_random_steps => k_is)
    (case c__law_random_steps => k_is); (case k__law_random_steps => k_is); (case a__law_plan => k_is); (case l__law_plan => k_is); (case c__law_plan => k_is); (case k__law_plan => k_is)
    (case a_after_step => k_is); (case l_after_step => k_is); (case c_after_step => k_is); (case k_after_step => k_is); (case a_after_steps => k_is); (case l_after_steps => k_is)
    (case c_after_steps => k_is); (case k_after_steps => k_is); (case a_few_rounds => k_is); (case l_few_rounds => k_is); (case c_few_rounds => k_is); (case k_few_rounds => k_is)
    (case a_after_rounds => k_is); (case l_after_rounds => k_is); (case c_after_rounds => k_is); (case k_after_rounds => k_is); (case a_check_start => k_is); (case l_check_start => k_is)
    (case c_check_start => k_is); (case k_check_start => k_is); (case a_checked_rounds => k_is); (case l_checked_rounds => k_is); (case c_checked_rounds => k_is); (case k_checked_rounds => k_is)
    (case a_total_carried => k_is); (case l_total_carried => k_is); (case c_total_carried => k_is); (case k_total_carried => k_is); (case a_red_chairs => k_is); (case l_red_chairs => k_is)
    (case c_red_chairs => k_is); (case k_red_chairs => k_is); (case a_allowed_range => k_is); (case l_allowed_range => k_is); (case c_allowed_range => k_is); (case k_allowed_range => k_is)
    (case a_narrowed => k_is); (case l_narrowed => k_is); (case c_narrowed => k_is); (case k_narrowed => k_is); (case a_nearest => k_is); (case l_nearest => k_is)
    (case c_nearest => k_is); (case k_nearest => k_is); (case a_effect_of => k_is); (case l_effect_of => k_is); (case c_effect_of => k_is); (case k_effect_of => k_is)
    (case a_summary => k_is); (case l_summary => k_is); (case c_summary => k_is); (case k_summary => k_is); (case a_telling_starts => k_is); (case l_telling_starts => k_is)
    (case c_telling_starts => k_is); (case k_telling_starts => k_is); (case a_first_difference => k_is); (case l_first_difference => k_is); (case c_first_difference => k_is); (case k_first_difference => k_is)
    (case a_settled_carrying => k_is); (case l_settled_carrying => k_is); (case c_settled_carrying => k_is); (case k_settled_carrying => k_is); (case a__law_few => k_is); (case l__law_few => k_is)
    (case c__law_few => k_is); (case k__law_few => k_is); (case a__law_is_step => k_is); (case l__law_is_step => k_is); (case c__law_is_step => k_is); (case k__law_is_step => k_is)
    (case a__law_bad_step => k_is); (case l__law_bad_step => k_is); (case c__law_bad_step => k_is); (case k__law_bad_step => k_is); (case a__law_refused => k_is); (case l__law_refused => k_is)
    (case c__law_refused => k_is); (case lC0 => k_is); (case v110 => exact rfl); (case tN0 => exact rfl); (case k__law_refused => k_is); (case a_law => k_is)
    (case l_law => k_is); (case c_law => k_is); (case lC => k_is); (case v11 => exact rfl); (case tN => exact rfl); (case k_law => k_is)
    (case a__law_outcome => k_is); (case l__law_outcome => k_is); (case c__law_outcome => k_is); (case k__law_outcome => k_is); (case a_long_run => k_is); (case l_long_run => k_is)
    (case c_long_run => k_is); (case k_long_run => k_is); (case a_saving => k_is); (case l_saving => k_is); (case c_saving => k_is); (case k_saving => k_is)
    (case aC => k_is); (case aminit => k_is); (case iminit => k_is); (case lminit => k_is); (case cminit => k_is); (case kminit => k_is)
    (case amjoined => k_is); (case imjoined => k_is); (case lmjoined => k_is); (case cmjoined => k_is); (case kmjoined => k_is); (case cA => k_is)
    (case cB => k_is); (case cC => k_is); (case lmalt => k_is); (case cmalt => k_is); (case kmalt => k_is); (case gInvalidNumber => k_is)
    (case xInvalidNumber => k_exc); (case kInvalidNumber => k_is); (case bInvalidNumber => k_is); (case tInvalidNumber => k_is); (case iInvalidNumber => k_is); (case sInvalidNumber => first | rfl | k_is)
    (case nInvalidNumber => k_is); (case gInvalidPlan => k_is); (case xInvalidPlan => k_is); (case kInvalidPlan => k_is); (case saInvalidPlan => k_is); (case gaInvalidPlan => k_is)
    (case ggInvalidPlan => k_is); (case nbInvalidPlan => k_is); (case iInvalidPlan => k_is); (case tfInvalidPlan => k_is); (case bInvalidPlan => k_is); (case tInvalidPlan => k_is)
    (case hdInvalidPlan => k_is); (case icInvalidPlan => k_is); (case sInvalidPlan => first | rfl | k_is); (case svInvalidPlan => k_is); (case suInvalidPlan => ks_is); (case opInvalidPlan => k_is)
    (case zsInvalidPlan => k_is); (case htInvalidPlan => first | rfl | decide +kernel); (case lInvalidPlan => k_is); (case cInvalidPlan => k_is); (case lcInvalidPlan => k_is); (case ldInvalidPlan => k_is)
    (case vfInvalidPlan => first | exact rfl | decide +kernel); (case fiInvalidPlan => first | rfl | decide +kernel); (case u1InvalidPlan => decide +kernel); (case u2InvalidPlan => decide +kernel); (case lnInvalidPlan => first | rfl | decide +kernel); (case gTooFewChairs => k_is)
    (case xTooFewChairs => k_is); (case kTooFewChairs => k_is); (case saTooFewChairs => k_is); (case gaTooFewChairs => k_is); (case ggTooFewChairs => k_is); (case nbTooFewChairs => k_is)
    (case iTooFewChairs => k_is); (case tfTooFewChairs => k_is); (case bTooFewChairs => k_is); (case tTooFewChairs => k_is); (case hdTooFewChairs => k_is); (case icTooFewChairs => k_is)
    (case sTooFewChairs => first | rfl | k_is); (case svTooFewChairs => k_is); (case suTooFewChairs => ks_is); (case opTooFewChairs => k_is); (case zsTooFewChairs => k_is); (case htTooFewChairs => first | rfl | decide +kernel)
    (case lTooFewChairs => k_is); (case cTooFewChairs => k_is); (case lcTooFewChairs => k_is); (case ldTooFewChairs => k_is); (case vfTooFewChairs => first | exact rfl | decide +kernel); (case fiTooFewChairs => first | rfl | decide +kernel)
    (case u1TooFewChairs => decide +kernel); (case u2TooFewChairs => decide +kernel); (case lnTooFewChairs => first | rfl | decide +kernel); (case pAtu => k_is); (case pGtu => k_is); (case pTtu => k_is)
    (case pRtu => k_is); (case ltu => k_is); (case ctu => k_is); (case ktu => k_is); (case dXInvalidNumber => k_is); (case sPN => first | rfl | k_is)
    (case sTN => first | rfl | k_is); (case sTP => first | rfl | k_is); (case pA => k_is); (case pG => k_is); (case pT => k_is); (case pR => k_is)
    (case lmst => k_is); (case cmst => k_is); (case kmst => k_is); (case pg => k_is); (case hd => k_is); (case po => k_is)
    (case sa => k_is); (case mk => k_is); (case kc => k_is); (case nS => k_is); (case rd => k_is); (case ga => k_is)
    (case v1 => k_is); (case v2 => k_is); (case w2 => k_is); (case w3 => k_is); (case aT => k_is); (case lT => k_is)
    (case q_MAX_ROUNDS => k_is); (case hne0 => first | decide | exact (by decide +kernel)); (case z0 => k_is); (case z1 => k_is); (case z2 => k_is); (case z3 => k_is)
    (case z4 => k_is); (case z5 => k_is); (case z6 => k_is); (case z7 => k_is); (case z8 => k_is); (case z9 => k_is)
    (case z10 => k_is); (case z11 => k_is); (case z12 => k_is); (case z13 => k_is); (case z14 => k_is); (case z15 => k_is)
    (case z16 => k_is); (case z17 => k_is); (case z18 => k_is)
#print axioms PySem.Challenge.cw_chaircarry_k01_invalid_plans_and_houses_holds
