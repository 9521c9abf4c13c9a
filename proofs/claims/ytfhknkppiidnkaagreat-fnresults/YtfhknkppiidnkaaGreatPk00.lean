import Derived.Test.YtfhknkppiidnkaaGreatRows
import Derived.WalkKit
import Derived.WalkLawsBesides
import Derived.Below
import Derived.OrdersHeld
import Derived.Deep.RegionHeld3
import Derived.Deep.QuietTactic
import Derived.BigQuiet
import Derived.WalkSpells
import Derived.OpenShut
import Derived.Maps.AppendAt
namespace Go.Proofs.YtfhknkppiidnkaaGreat
open Go.RowKit
def H9 (p : Prop) : Prop := p
theorem H9.o {p : Prop} (h : H9 p) : p := h
abbrev it (x : Int) : Value := .int .i64 x
theorem bal (w : World) (o : Obj) : Below w.heap.size w (w.alloc o) := (Below.refl _ _).alloc (Nat.le_refl _) _
abbrev v0' (x0 x1 x2 x3 x4 x5 x6 x7 x8 x9 x10 x11 x12 x13 x14 x15 : Int) (x16 : Bool) (x17 : Option Addr) (x18 x19 : Nat) : List Value := [.int .i64 x0, .int .i64 x1, .int .i64 x2, .int .i64 x3, .int .i64 x4, .int .i64 x5, .int .i64 x6, .int .i64 x7, .int .i64 x8, .int .i64 x9, .int .i64 x10, .int .i64 x11, .int .i64 x12, .int .i64 x13, .int .i64 x14, .int .i64 x15, .bool x16, .slice x17 x18 x19]
abbrev v1' (x0 x1 x2 x3 x4 x5 x6 x7 x8 x9 x10 x11 : Int) : List Value := [.int .i64 x0, .int .i64 x1, .int .i64 x2, .int .i64 x3, .int .i64 x4, .int .i64 x5, .int .i64 x6, .int .i64 x7, .int .i64 x8, .int .i64 x9, .int .i64 x10, .int .i64 x11]
abbrev v2' : List Value := [.int .i64 0, .int .i64 0, .int .i64 0, .int .i64 0, .int .i64 0, .int .i64 0, .int .i64 0, .int .i64 0, .int .i64 0, .int .i64 0, .int .i64 0, .int .i64 0, .int .i64 0, .int .i64 0, .int .i64 0, .int .i64 0, .bool false, .slice none 0 0]
abbrev v3' (x0 x1 x2 x3 : Int) (x4 : Option Addr) (x5 x6 : Nat) (x7 : Option Addr) (x8 x9 : Nat) (x10 : Option Addr) (x11 x12 : Nat) (x13 : Option Addr) (x14 x15 : Nat) : List Value := [.int .i64 x0, .int .i64 x1, .int .i64 x2, .int .i64 x3, .slice x4 x5 x6, .slice x7 x8 x9, .slice x10 x11 x12, .slice x13 x14 x15]
abbrev v4' (x0 x1 : Int) (x2 : Option Addr) (x3 x4 : Nat) (x5 : Option Addr) (x6 x7 : Nat) : List Value := [.int .i64 x0, .int .i64 x1, .slice x2 x3 x4, .slice x5 x6 x7]
abbrev v5' (x0 x1 x2 x3 x4 x5 x6 : Int) (x7 : Option Addr) (x8 x9 : Nat) (x10 : Option Addr) (x11 x12 : Nat) (x13 : Option Addr) (x14 x15 : Nat) (x16 : Option Addr) (x17 x18 : Nat) : List Value := [.int .i64 3, .int .i64 x0, .int .i64 x1, .int .i64 x2, .int .i64 0, .int .i64 0, .int .i64 0, .int .i64 0, .int .i64 0, .int .i64 0, .int .i64 0, .int .i64 0, .int .i64 0, .int .i64 0, .int .i64 0, .int .i64 0, .int .i64 0, .int .i64 0, .int .i64 0, .int .i64 x3, .int .i64 x4, .int .i64 x5, .int .i64 x6, .slice x7 x8 x9, .slice x10 x11 x12, .slice x13 x14 x15, .slice x16 x17 x18]
abbrev v6' : List Value := [.int .i64 0, .int .i64 0, .int .i64 0, .int .i64 0, .slice none 0 0, .slice none 0 0, .slice none 0 0, .slice none 0 0]
abbrev v7' (x0 : Int) : List Value := [.int .i64 2, .int .i64 0, .int .i64 0, .int .i64 x0, .int .i64 0, .int .i64 0, .int .i64 0, .int .i64 0, .int .i64 0, .int .i64 0, .int .i64 0, .int .i64 0, .int .i64 0, .int .i64 0, .int .i64 0, .int .i64 0, .int .i64 0, .int .i64 0, .int .i64 0, .int .i64 0, .int .i64 0, .int .i64 0, .int .i64 0, .slice none 0 0, .slice none 0 0, .slice none 0 0, .slice none 0 0]
abbrev v8' (x0 x1 : Int) : List Value := [.int .i64 x0, .int .i64 0, .int .i64 0, .int .i64 x1, .int .i64 0, .int .i64 0, .int .i64 0, .int .i64 0, .int .i64 0, .int .i64 0, .int .i64 0, .int .i64 0, .int .i64 0, .int .i64 0, .int .i64 0, .int .i64 0, .int .i64 0, .int .i64 0, .int .i64 0, .int .i64 0, .int .i64 0, .int .i64 0, .int .i64 0, .slice none 0 0, .slice none 0 0, .slice none 0 0, .slice none 0 0]
abbrev v9' : List Value := [.int .i64 0, .int .i64 0, .int .i64 0, .int .i64 0, .int .i64 0]
abbrev v10' : List Value := [.int .i64 0, .int .i64 0, .slice none 0 0, .slice none 0 0]
abbrev v12' (x0 x1 x2 x3 x4 x5 x6 x7 x8 x9 x10 x11 x12 x13 x14 x15 x16 x17 x18 x19 x20 x21 x22 : Int) (x23 : Option Addr) (x24 x25 : Nat) (x26 : Option Addr) (x27 x28 : Nat) (x29 : Option Addr) (x30 x31 : Nat) (x32 : Option Addr) (x33 x34 : Nat) : List Value := [.int .i64 x0, .int .i64 x1, .int .i64 x2, .int .i64 x3, .int .i64 x4, .int .i64 x5, .int .i64 x6, .int .i64 x7, .int .i64 x8, .int .i64 x9, .int .i64 x10, .int .i64 x11, .int .i64 x12, .int .i64 x13, .int .i64 x14, .int .i64 x15, .int .i64 x16, .int .i64 x17, .int .i64 x18, .int .i64 x19, .int .i64 x20, .int .i64 x21, .int .i64 x22, .slice x23 x24 x25, .slice x26 x27 x28, .slice x29 x30 x31, .slice x32 x33 x34]
abbrev v13' : List Value := [.int .i64 0, .int .i64 0, .int .i64 0, .int .i64 0, .int .i64 0, .int .i64 0, .int .i64 0, .int .i64 0, .int .i64 0, .int .i64 0, .int .i64 0, .int .i64 0, .int .i64 0, .int .i64 0, .int .i64 0, .int .i64 0, .int .i64 0, .int .i64 0, .int .i64 0, .int .i64 0, .int .i64 0, .int .i64 0, .int .i64 0, .slice none 0 0, .slice none 0 0, .slice none 0 0, .slice none 0 0]
abbrev v14' (x0 x1 x2 x3 x4 : Int) : List Value := [.int .i64 x0, .int .i64 x1, .int .i64 x2, .int .i64 x3, .int .i64 x4]
abbrev v15' (x0 : Int) : List Value := [.int .i64 4, .int .i64 0, .int .i64 0, .int .i64 0, .int .i64 x0, .int .i64 0, .int .i64 0, .int .i64 0, .int .i64 0, .int .i64 0, .int .i64 0, .int .i64 0, .int .i64 0, .int .i64 0, .int .i64 0, .int .i64 0, .int .i64 0, .int .i64 0, .int .i64 0, .int .i64 0, .int .i64 0, .int .i64 0, .int .i64 0, .slice none 0 0, .slice none 0 0, .slice none 0 0, .slice none 0 0]
abbrev v16' (x0 : Int) : List Value := [.int .i64 5, .int .i64 x0, .int .i64 0, .int .i64 0, .int .i64 0, .int .i64 0, .int .i64 0, .int .i64 0, .int .i64 0, .int .i64 0, .int .i64 0, .int .i64 0, .int .i64 0, .int .i64 0, .int .i64 0, .int .i64 0, .int .i64 0, .int .i64 0, .int .i64 0, .int .i64 0, .int .i64 0, .int .i64 0, .int .i64 0, .slice none 0 0, .slice none 0 0, .slice none 0 0, .slice none 0 0]
abbrev v17' (x0 x1 x2 x3 x4 x5 x6 x7 x8 x9 x10 x11 x12 x13 x14 x15 : Int) : List Value := [.int .i64 1, .int .i64 0, .int .i64 x0, .int .i64 0, .int .i64 x1, .int .i64 x2, .int .i64 x3, .int .i64 x4, .int .i64 x5, .int .i64 x6, .int .i64 x7, .int .i64 x8, .int .i64 x9, .int .i64 x10, .int .i64 x11, .int .i64 x12, .int .i64 x13, .int .i64 x14, .int .i64 x15, .int .i64 0, .int .i64 0, .int .i64 0, .int .i64 0, .slice none 0 0, .slice none 0 0, .slice none 0 0, .slice none 0 0]
abbrev v18' : List Value := [.int .i64 0, .int .i64 0, .int .i64 0, .int .i64 0, .int .i64 0, .int .i64 0, .int .i64 0, .int .i64 0, .int .i64 0, .int .i64 0, .int .i64 0, .int .i64 0]
abbrev v19' (x0 x1 x2 x3 x4 x5 x6 x7 x8 x9 x10 x11 x12 x13 x14 x15 : Int) (x16 : Option Addr) (x17 x18 : Nat) : List Value := [.int .i64 x0, .int .i64 x1, .int .i64 x2, .int .i64 x3, .int .i64 x4, .int .i64 x5, .int .i64 x6, .int .i64 x7, .int .i64 x8, .int .i64 x9, .int .i64 x10, .int .i64 x11, .int .i64 x12, .int .i64 x13, .int .i64 x14, .int .i64 x15, .bool false, .slice x16 x17 x18]
abbrev v20' (x0 : Int) : List Value := [.int .i64 0, .int .i64 0, .int .i64 0, .int .i64 x0, .int .i64 0, .int .i64 0, .int .i64 0, .int .i64 0, .int .i64 0, .int .i64 0, .int .i64 0, .int .i64 0, .int .i64 0, .int .i64 0, .int .i64 0, .int .i64 0, .int .i64 0, .int .i64 0, .int .i64 0, .int .i64 0, .int .i64 0, .int .i64 0, .int .i64 0, .slice none 0 0, .slice none 0 0, .slice none 0 0, .slice none 0 0]
abbrev v21' (x0 x1 x2 x3 x4 x5 : Int) : List Value := [.int .i64 x0, .int .i64 x1, .int .i64 x2, .int .i64 x3, .int .i64 x4, .int .i64 x5]
abbrev v23' (x0 : Int) : List Value := [.int .i64 0, .int .i64 0, .int .i64 0, .int .i64 0, .int .i64 1, .int .i64 0, .int .i64 0, .int .i64 0, .int .i64 0, .int .i64 1, .int .i64 x0, .int .i64 0]
abbrev v24' (x0 x1 : Int) (x2 : Option Addr) (x3 x4 : Nat) : List Value := [.int .i64 x0, .int .i64 x1, .slice x2 x3 x4, .slice none 0 0]
abbrev v25' (x0 x1 x2 : Int) : List Value := [.int .i64 0, .int .i64 0, .int .i64 0, .int .i64 x0, .int .i64 x1, .int .i64 x2]
abbrev v27' (x0 : Bool) (x1 x2 : Int) : List Value := [.bool x0, .int .i64 x1, .int .i64 x2]
abbrev v28' (x0 x1 x2 x3 x4 x5 : Int) : List Value := [.int .i64 x0, .int .i64 x1, .int .i64 x2, .int .i64 x3, .int .i64 x4, .int .i64 x5, .int .i64 0, .int .i64 0, .int .i64 0, .int .i64 0, .int .i64 0, .int .i64 0]
abbrev v29' : List Value := [.int .i64 0, .int .i64 1, .slice none 0 0, .slice none 0 0]
abbrev v30' : List Value := [.int .i64 0, .int .i64 0, .int .i64 0, .int .i64 0, .int .i64 0, .int .i64 0]
abbrev v31' (x0 : Int) (x1 : Option Addr) (x2 x3 : Nat) (x4 : Option Addr) (x5 x6 : Nat) : List Value := [.int .i64 1000000000, .int .i64 x0, .slice x1 x2 x3, .slice x4 x5 x6]
theorem Hd {p : Prop} (h : p) : H9 p := h
theorem tk {P : Program} {md : Region.Mode} {ops : Array Oper} {Q : Exit → Act → World → Prop} {S : World → Prop} (i : Nat) (v : Value) {oi : Oper} {fuel : Nat} {listed : Array Bool} {a : Act} {w : World} (hy : ∀ w, S w → (execOp a.eval oi).run P w = .ok (.value v) w) (h : wpAnyH P md ops (NoPanic Q) S fuel (listed.setIfInBounds i true) (a.put oi.dst v) w) (hi : ops[i]? = some oi:=by rfl) (hb : (Region.noSelect ops && Region.free md ops listed i && (Region.ready md ops listed).contains i && Region.wanted oi (yielded ops a.tmps)) = true:=by kernel_rfl) (hS : S w:=by assumption) : wpAnyH P md ops (NoPanic Q) S (fuel + 1) listed a w := by
  simp only [Bool.and_eq_true] at hb
  exact wpAnyH_take hi hb.1.1.1 hb.1.1.2 hb.1.2 (fun _ _ _ h => h) (Or.inl ⟨hb.2, hy⟩) hS h
theorem sk {P : Program} {md : Region.Mode} {ops : Array Oper} {Q : Exit → Act → World → Prop} {S : World → Prop} (i : Nat) {oi : Oper} {fuel : Nat} {listed : Array Bool} {a : Act} {w : World} (h : wpAnyH P md ops (NoPanic Q) S fuel (listed.setIfInBounds i true) (a.put oi.dst undef) w) (hi : ops[i]? = some oi:=by rfl) (hb : (Region.noSelect ops && Region.free md ops listed i && (Region.ready md ops listed).contains i && !Region.wanted oi (yielded ops a.tmps)) = true:=by kernel_rfl) (hS : S w:=by assumption) : wpAnyH P md ops (NoPanic Q) S (fuel + 1) listed a w := by
  simp only [Bool.and_eq_true, Bool.not_eq_true'] at hb
  exact wpAnyH_take hi hb.1.1.1 hb.1.1.2 hb.1.2 (fun _ _ _ h => h) (Or.inr ⟨hb.2, rfl⟩) hS h
theorem rdy' {P : Program} {md : Region.Mode} {ops : Array Oper} {Q : Exit → Act → World → Prop} {S : World → Prop} {fuel : Nat} {listed : Array Bool} {a : Act} {w : World} (i : Nat) {o : Oper} (h : ∀ K' : Act → World → Prop, Shut (∀ a w, S w → (S w → wpAnyH P md ops Q S fuel (listed.setIfInBounds i true) a w) → K' a w) → if Region.wanted o (yielded ops a.tmps) = true then Oper.wp P o a w K' Q else K' (a.put o.dst undef) w) (ho : ops[i]? = some o:=by rfl) (hr : Region.ready md ops listed = [i]:=by kernel_rfl) : wpAnyH P md ops Q S (fuel + 1) listed a w :=
  wpAnyH_ready hr (by simp) (AllReadyH.cons ho h AllReadyH.nil)
theorem dne' {P : Program} {md : Region.Mode} {ops : Array Oper} {Q : Exit → Act → World → Prop} {S : World → Prop} {fuel : Nat} {listed : Array Bool} {a : Act} {w : World} (h : Q .normal a w) (hr : Region.ready md ops listed = []:=by kernel_rfl) : wpAnyH P md ops (NoPanic Q) S fuel listed a w := wpAnyH_done hr (NoPanic.normal h) _
namespace M
def el (a:Int):Bool:=decide (0≤a∧a<65537)
theorem el_iff (a:Int):el a=true↔0≤a∧a<65537:=by simp [el]
theorem el_not (a:Int):el a=false↔a<0∨65537≤a:=by simp [el];omega
def add (a b:Int):Int:=if el a=true∧el b=true then (a+b) % 65537 else -1
def sub (a b:Int):Int:=if el a=true∧el b=true then (a+65537-b) % 65537 else -1
def mul (a b:Int):Int:=if el a=true∧el b=true then a*b % 65537 else -1
theorem add_in {a b:Int} (ha:el a=true) (hb:el b=true):add a b=(a+b) % 65537:=by simp [add,ha,hb]
theorem sub_in {a b:Int} (ha:el a=true) (hb:el b=true):sub a b=(a+65537-b) % 65537:=by simp [sub,ha,hb]
theorem mul_in {a b:Int} (ha:el a=true) (hb:el b=true):mul a b=a*b % 65537:=by simp [mul,ha,hb]
theorem add_l {a b:Int} (h:el a=false):add a b = -1:=by simp [add,h]
theorem add_r {a b:Int} (h:el b=false):add a b = -1:=by simp [add,h]
theorem sub_l {a b:Int} (h:el a=false):sub a b = -1:=by simp [sub,h]
theorem sub_r {a b:Int} (h:el b=false):sub a b = -1:=by simp [sub,h]
theorem mul_l {a b:Int} (h:el a=false):mul a b = -1:=by simp [mul,h]
theorem mul_r {a b:Int} (h:el b=false):mul a b = -1:=by simp [mul,h]
theorem mul_bd {a b:Int} (ha:0≤a) (ha':a<65537) (hb:0≤b) (hb':b<65537):0≤a*b∧a*b≤4294967296:=by
 refine ⟨Int.mul_nonneg ha hb,?_⟩;have h1:a*b≤65536*b:=Int.mul_le_mul_of_nonneg_right (by omega) hb;omega
end M
namespace M
def pw (x:Int) (n:Nat):Int:=x ^ n % 65537
theorem pw_bd (x:Int) (n:Nat):0≤pw x n∧pw x n<65537:=by unfold pw;omega
theorem pow_emod (a:Int) (n:Nat):(a % 65537) ^ n % 65537=a ^ n % 65537:=by
 induction n with
 | zero=>simp
 | succ n ih=>rw [Int.pow_succ,Int.pow_succ,Int.mul_emod,ih,Int.emod_emod_of_dvd _ (Int.dvd_refl _),← Int.mul_emod]
def PInv (x:Int) (N:Nat) (out a:Int) (n:Nat):Prop:=out*a ^ n % 65537=x ^ N % 65537
theorem pinv_start (x:Int) (N:Nat):PInv x N 1 x N:=by simp [PInv]
theorem sq_pow (a:Int) (k:Nat):(a*a) ^ k=a ^ (2*k):=by
 rw [Int.pow_mul,Int.pow_succ,Int.pow_succ,Int.pow_zero,Int.one_mul]
theorem pinv_even {x:Int} {N:Nat} {out a:Int} {n:Nat} (h:PInv x N out a n) (e:n % 2=0):PInv x N out (a*a % 65537) (n / 2):=by
 unfold PInv at *;rw [Int.mul_emod,pow_emod,sq_pow,show 2*(n / 2)=n by omega,← Int.mul_emod];exact h
theorem pinv_odd {x:Int} {N:Nat} {out a:Int} {n:Nat} (h:PInv x N out a n) (e:n % 2=1):PInv x N (out*a % 65537) (a*a % 65537) (n / 2):=by
 unfold PInv at *;have hn:n=2*(n / 2)+1:=by omega
 have ha:a ^ n=a*a ^ (2*(n / 2)):=by
  conv=>lhs;rw [hn]
  rw [Int.pow_succ,Int.mul_comm]
 rw [Int.mul_emod,pow_emod,sq_pow,Int.emod_emod_of_dvd _ (Int.dvd_refl _),← Int.mul_emod,Int.mul_assoc,← ha];exact h
theorem pinv_end {x:Int} {N:Nat} {out a:Int} (h:PInv x N out a 0) (h0:0≤out) (h1:out<65537):out=pw x N:=by
 unfold PInv at h;unfold pw;rw [Int.pow_zero,Int.mul_one,Int.emod_eq_of_lt h0 h1] at h;exact h
def pow (a n:Int):Int:=if el a=true∧0≤n then pw a n.toNat else -1
theorem pow_in {a n:Int} (h:el a=true) (hn:0≤n):pow a n=pw a n.toNat:=by simp [pow,h,hn]
end M
namespace M
def inv (a:Int):Int:=if el a=true∧a≠0 then pw a 65535 else -1
theorem inv_in {a:Int} (h:el a=true) (h0:a≠0):inv a=pw a 65535:=by simp [inv,h,h0]
theorem inv_l {a:Int} (h:el a=false):inv a = -1:=by simp [inv,h]
theorem inv_0 : inv 0 = -1:=by simp [inv]
def two (n:Int):Bool:=(List.range 17).any fun i=>n == (2:Int) ^ i
theorem two_iff (n:Int):two n=true↔∃ i:Nat,i≤16∧n=(2:Int) ^ i:=by
 simp only [two,List.any_eq_true,List.mem_range,beq_iff_eq]
 constructor
 · rintro ⟨i,hi,e⟩;exact ⟨i,by omega,e⟩
 · rintro ⟨i,hi,e⟩;exact ⟨i,by omega,e⟩
theorem two_le16 {i:Nat} (h:i≤16):(1:Int)≤2 ^ i∧(2:Int) ^ i≤65536:=by
 have:i=0∨i=1∨i=2∨i=3∨i=4∨i=5∨i=6∨i=7∨i=8∨i=9∨i=10∨i=11∨i=12∨i=13∨i=14∨i=15∨i=16:=by omega
 rcases this with h | h | h | h | h | h | h | h | h | h | h | h | h | h | h | h | h <;> subst h <;> decide
theorem two_bd {n:Int} (h:two n=true):1≤n∧n≤65536:=by
 obtain ⟨i,hi,rfl⟩:=(two_iff n).1 h;exact two_le16 hi
def TwoInv (n p:Int):Prop:=∃ j:Nat,j≤17∧p=(2:Int) ^ j∧∀ i,i<j→n≠(2:Int) ^ i
theorem tinv_start (n:Int):TwoInv n 1:=⟨0,by omega,by simp,fun i h=>by omega⟩
theorem tinv_hit {n p:Int} (h:TwoInv n p) (hp:p≤65536) (e:p=n):two n=true:=by
 obtain ⟨j,hj,rfl,_⟩:=h;refine (two_iff n).2 ⟨j,?_,e.symm⟩;by_cases Aa:j=17
 · subst Aa;exact absurd hp (by decide)
 · omega
theorem tinv_step {n p:Int} (h:TwoInv n p) (hp:p≤65536) (e:p≠n):TwoInv n (2*p):=by
 obtain ⟨j,hj,rfl,hn⟩:=h;have hj':j≠17:=(by intro e17;subst e17;exact absurd hp (by decide));refine ⟨j+1,by omega,by rw [Int.pow_succ,Int.mul_comm],fun i hi=>?_⟩;by_cases e2:i=j
 · subst e2;exact fun h=>e h.symm
 · exact hn i (by omega)
theorem tinv_end {n p:Int} (h:TwoInv n p) (hp:65536<p):two n=false:=by
 obtain ⟨j,hj,rfl,hn⟩:=h
 have hj':j=17:=by
  by_cases e:j≤16
  · have:=(two_le16 e).2;omega
  · omega
 subst hj'
 cases ht:two n with
 | false=>rfl
 | true=>obtain ⟨i,hi,e⟩:=(two_iff n).1 ht;exact absurd e (hn i (by omega))
theorem dvd_two_pow (m n:Nat) (h:n ∣ 2 ^ m):∃ i,i≤m∧n=2 ^ i:=by
 induction m generalizing n with
 | zero=>exact ⟨0,Nat.le_refl _,by simpa using h⟩
 | succ m ih =>
  rcases Nat.mod_two_eq_zero_or_one n with e | e
  ·
   obtain ⟨c,rfl⟩:=Nat.dvd_of_mod_eq_zero e;rw [Nat.pow_succ,Nat.mul_comm] at h;obtain ⟨i,hi,hc⟩:=ih c (Nat.dvd_of_mul_dvd_mul_right (k:=2) (by omega) (by first | exact h | (rw [Nat.mul_comm c 2,Nat.mul_comm (2 ^ m) 2];exact h)))
   exact ⟨i+1,by omega,by rw [hc,Nat.pow_succ,Nat.mul_comm]⟩
  ·
   have hc:Nat.Coprime n 2:=by
    have h2:Nat.gcd n 2 ∣ 2:=Nat.gcd_dvd_right n 2;have h1:Nat.gcd n 2 ∣ n:=Nat.gcd_dvd_left n 2;have Aa:=Nat.le_of_dvd (by omega) h2;have Ba:0<Nat.gcd n 2:=Nat.gcd_pos_of_pos_right n (by omega);have Ca:Nat.gcd n 2≠2:=(by intro e2;rw [e2] at h1;omega);show Nat.gcd n 2=1;omega
   rw [Nat.pow_succ] at h;obtain ⟨i,hi,e2⟩:=ih n (hc.dvd_of_dvd_mul_right h);exact ⟨i,by omega,e2⟩
theorem two_div {n:Int} (h0:1≤n):two n=true↔65536 % n=0:=by
 rw [two_iff]
 constructor
 ·
  rintro ⟨i,hi,rfl⟩;have:i=0∨i=1∨i=2∨i=3∨i=4∨i=5∨i=6∨i=7∨i=8∨i=9∨i=10∨i=11∨i=12∨i=13∨i=14∨i=15∨i=16:=by omega
  rcases this with h | h | h | h | h | h | h | h | h | h | h | h | h | h | h | h | h <;> subst h <;> decide
 ·
  intro h;obtain ⟨m,rfl⟩:=Int.eq_ofNat_of_zero_le (show 0≤n by omega)
  have h':65536 % m=0:=by
   have:((65536 % m:Nat):Int)=0:=(by rw [Int.natCast_emod];exact h);omega
  obtain ⟨i,hi,e⟩:=dvd_two_pow 16 m (Nat.dvd_of_mod_eq_zero h');exact ⟨i,hi,by rw [e];simp⟩
def root (n:Int):Int:=if two n=true then pw 3 (65536 / n).toNat else -1
theorem root_in {n:Int} (h:two n=true):root n=pw 3 (65536 / n).toNat:=by simp [root,h]
theorem root_out {n:Int} (h:two n=false):root n = -1:=by simp [root,h]
end M
namespace M
theorem el_mod (x:Int):el (x % 65537)=true:=(el_iff _).2 ⟨by omega,by omega⟩
theorem el_mul {a b:Int} (ha:el a=true) (hb:el b=true):el (mul a b)=true:=by rw [mul_in ha hb];exact el_mod _
theorem mul_comm' (a b:Int):mul b a=mul a b:=by
 unfold mul;by_cases h:el a=true∧el b=true
 · rw [if_pos h,if_pos h.symm,Int.mul_comm]
 · rw [if_neg h,if_neg (fun h'=>h h'.symm)]
theorem mul_assoc' {a b c:Int} (ha:el a=true) (hb:el b=true) (hc:el c=true):mul (mul a b) c=mul a (mul b c):=by
 rw [mul_in (el_mul ha hb) hc,mul_in ha hb,mul_in ha (el_mul hb hc),mul_in hb hc];rw [Int.mul_emod,Int.emod_emod_of_dvd _ (Int.dvd_refl _),← Int.mul_emod,Int.mul_emod a,Int.emod_emod_of_dvd _ (Int.dvd_refl _),← Int.mul_emod,Int.mul_assoc]
theorem mul_one' {a:Int} (ha:el a=true):mul a 1=a:=by
 rw [mul_in ha (by decide)];have h1:=(el_iff a).1 ha;omega
end M
namespace M
def sq (x:Nat):Nat:=x*x % 65537
def it : Nat→Nat→Nat
 | 0,x=>x
 | k+1,x=>it k (sq x)
theorem natpow_mod (a n:Nat):(a % 65537) ^ n % 65537=a ^ n % 65537:=(Nat.pow_mod a n 65537).symm
theorem sq_pow' (x n:Nat):sq x ^ n % 65537=x ^ (2*n) % 65537:=by
 unfold sq;rw [natpow_mod,Nat.pow_mul,Nat.pow_succ,Nat.pow_one]
theorem it_pow (k x:Nat):it k x % 65537=x ^ (2 ^ k) % 65537:=by
 induction k generalizing x with
 | zero=>simp [it]
 | succ k ih =>
  show it k (sq x) % 65537=_;rw [ih,sq_pow',Nat.pow_succ,Nat.mul_comm]
theorem small_ok : (List.range 257).all (fun a=>a == 0 || it 16 a % 65537 == 1)=true:=by decide +kernel
theorem small_no : (List.range 257).all (fun q=>q≤1 || 65537 % q != 0)=true:=by decide +kernel
theorem neg_one (k:Nat) (hk:k=16):65536 ^ (2 ^ k) % 65537=1:=by
 rw [← it_pow,hk];decide +kernel
theorem fermat_nat (k:Nat) (hk:k=16) (a:Nat) (h0:0<a) (h1:a<65537):a ^ (2 ^ k) % 65537=1:=by
 induction a using Nat.strongRecOn with
 | _ a ih =>
  by_cases hs:a≤256
  ·
   have h:=List.all_eq_true.1 small_ok a (List.mem_range.2 (by omega));simp only [Bool.or_eq_true,beq_iff_eq] at h
   rcases h with h | h
   · omega
   · rw [← it_pow,hk,h]
  ·
   have hq:65537 / a<257:=(Nat.div_lt_iff_lt_mul h0).2 (by omega);have Aa:0<65537 / a:=Nat.div_pos (by omega) h0;have hd:=Nat.div_add_mod 65537 a;have hr:65537 % a<a:=Nat.mod_lt _ h0
   have Ba:0<65537 % a:=by
    rcases Nat.eq_zero_or_pos (65537 % a) with e | e
    ·
     exfalso
     rw [e,Nat.add_zero] at hd;have h:=List.all_eq_true.1 small_no (65537 / a) (List.mem_range.2 hq);simp only [Bool.or_eq_true,decide_eq_true_eq,bne_iff_ne] at h
     rcases h with h | h
     ·
      have e1:65537 / a=1:=(by omega);rw [e1] at hd;omega
     ·
      apply h;have:65537=65537 / a*a:=(by rw [Nat.mul_comm];exact hd.symm);exact Nat.mod_eq_zero_of_dvd ⟨a,this⟩
    · exact e
   have Ca:=ih (65537 % a) hr Ba (by omega);have Da:=ih (65537 / a) (by omega) Aa (by omega);have Ea:=neg_one k hk;generalize 65537 / a=q at *;generalize 65537 % a=r at *
   have hc:(a*q) % 65537=(65536*r) % 65537:=by
    have e1:a*q+r*65537=65536*r+65537:=(by omega);have e2:(a*q+r*65537) % 65537=(a*q) % 65537:=(by rw [Nat.add_mul_mod_self_right]);rw [← e2,e1,Nat.add_mod_right]
   generalize 2 ^ k=E at *;have hp:(a*q) ^ E % 65537=(65536*r) ^ E % 65537:=(by rw [Nat.pow_mod,hc,← Nat.pow_mod]);rw [Nat.mul_pow,Nat.mul_pow,Nat.mul_mod,Da,Nat.mul_one,Nat.mod_mod,Nat.mul_mod,Ea,Ca] at hp;exact hp
theorem fermat_k (k:Nat) (hk:k=16) {a:Int} (h0:0<a) (h1:a<65537):pw a (2 ^ k)=1:=by
 obtain ⟨n,rfl⟩:=Int.eq_ofNat_of_zero_le (show 0≤a by omega);have h:=fermat_nat k hk n (by omega) (by omega);unfold pw;have:(((n ^ (2 ^ k) % 65537:Nat)):Int)=1:=(by rw [h];rfl);rw [Int.natCast_emod,Int.natCast_pow] at this;exact this
theorem fermat {a:Int} (h0:0<a) (h1:a<65537):pw a 65536=1:=fermat_k 16 rfl h0 h1
theorem el_pw (x:Int) (n:Nat):el (pw x n)=true:=(el_iff _).2 (pw_bd x n)
theorem pw_add (x:Int) (m n:Nat):mul (pw x m) (pw x n)=pw x (m+n):=by
 rw [mul_in (el_pw x m) (el_pw x n)];unfold pw;rw [← Int.mul_emod,Int.pow_add]
theorem pw_pw (x:Int) (m n:Nat):pw (pw x m) n=pw x (m*n):=by
 unfold pw;rw [pow_emod,Int.pow_mul]
theorem pw_one {x:Int} (h:el x=true):pw x 1=x:=by
 have:=(el_iff x).1 h;unfold pw;rw [Int.pow_succ,Int.pow_zero,Int.one_mul,Int.emod_eq_of_lt this.1 this.2]
theorem mul_inv {a:Int} (h:el a=true) (h0:a≠0):mul a (inv a)=1:=by
 have hb:=(el_iff a).1 h;rw [inv_in h h0]
 conv=>lhs;rw [← pw_one h]
 rw [pw_pw,pw_add];exact fermat (by omega) hb.2
theorem three_k (k:Nat) (hk:k=15):pw 3 (2 ^ k)=65536:=by
 have h:(3:Nat) ^ (2 ^ k) % 65537=65536:=(by rw [← it_pow,hk];decide +kernel);unfold pw;have:(((3 ^ (2 ^ k) % 65537:Nat)):Int)=65536:=(by rw [h];rfl);rw [Int.natCast_emod,Int.natCast_pow] at this;exact this
theorem three_half : pw 3 32768=65536:=three_k 15 rfl
theorem two_cases {n:Int} (h:two n=true):n=1∨(∃ i:Nat,i≤15∧n=2*(2:Int) ^ i):=by
 obtain ⟨i,hi,rfl⟩:=(two_iff n).1 h
 cases i with
 | zero=>left;simp
 | succ i=>right;exact ⟨i,by omega,by rw [Int.pow_succ,Int.mul_comm]⟩
theorem div_mul_two {n:Int} (h:two n=true):(65536 / n).toNat*n.toNat=65536:=by
 have hb:=two_bd h;have hm:=(two_div hb.1).1 h;have h2:=Int.mul_ediv_add_emod 65536 n;rw [hm,Int.add_zero] at h2;have h0:0≤65536 / n:=Int.ediv_nonneg (by omega) (by omega);apply Int.ofNat.inj;show (((65536 / n).toNat*n.toNat:Nat):Int)=65536;rw [Int.natCast_mul,Int.toNat_of_nonneg h0,Int.toNat_of_nonneg (by omega),Int.mul_comm];exact h2
theorem root_el {n:Int} (h:two n=true):el (root n)=true:=by rw [root_in h];exact el_pw _ _
theorem root_pow {n:Int} (h:two n=true):pow (root n) n=1:=by
 have hb:=two_bd h;rw [pow_in (root_el h) (by omega),root_in h,pw_pw,div_mul_two h];exact fermat (by omega) (by omega)
theorem root_half {n:Int} (h:two n=true) (h1:n≠1):pow (root n) (n / 2)=65536:=by
 have hb:=two_bd h;rw [pow_in (root_el h) (by omega),root_in h,pw_pw];have hd:=div_mul_two h
 rcases two_cases h with e | ⟨i,hi,e⟩
 · exact absurd e h1
 ·
  have e2:n.toNat=2*(n / 2).toNat:=by
   have:n=2*(n / 2):=(by rw [e];omega);omega
  have e3:(65536 / n).toNat*(n / 2).toNat=32768:=by
   rw [e2] at hd;have:2*((65536 / n).toNat*(n / 2).toNat)=65536:=(by rw [← hd,Nat.mul_left_comm]);omega
  rw [e3];exact three_half
end M
namespace M
def cg (a b:Int):Prop:=a % 65537=b % 65537
theorem cg_iff {a b:Int}:cg a b↔∃ k,a=b+65537*k:=by
 unfold cg
 constructor
 · intro h;exact ⟨a / 65537-b / 65537,by omega⟩
 · rintro ⟨k,rfl⟩;omega
theorem cg.refl (a:Int):cg a a:=rfl
theorem cg.symm {a b:Int} (h:cg a b):cg b a:=Eq.symm h
theorem cg.trans {a b c:Int} (h:cg a b) (h2:cg b c):cg a c:=Eq.trans h h2
theorem cg.add {a b c d:Int} (h:cg a b) (h2:cg c d):cg (a+c) (b+d):=by
 rw [cg_iff] at *;obtain ⟨k,rfl⟩:=h;obtain ⟨l,rfl⟩:=h2;exact ⟨k+l,by grind⟩
theorem cg.sub {a b c d:Int} (h:cg a b) (h2:cg c d):cg (a-c) (b-d):=by
 rw [cg_iff] at *;obtain ⟨k,rfl⟩:=h;obtain ⟨l,rfl⟩:=h2;exact ⟨k-l,by grind⟩
theorem cg.mul {a b c d:Int} (h:cg a b) (h2:cg c d):cg (a*c) (b*d):=by
 rw [cg_iff] at *;obtain ⟨k,rfl⟩:=h;obtain ⟨l,rfl⟩:=h2;exact ⟨k*d+b*l+65537*k*l,by grind⟩
theorem cg.pow {a b:Int} (h:cg a b) (n:Nat):cg (a ^ n) (b ^ n):=by
 induction n with
 | zero=>rw [Int.pow_zero,Int.pow_zero];exact cg.refl _
 | succ n ih=>rw [Int.pow_succ,Int.pow_succ];exact ih.mul h
theorem cg_mod (a:Int):cg (a % 65537) a:=by unfold cg;omega
theorem cg_of_eq {a b:Int} (h:a=b):cg a b:=by rw [h];exact cg.refl _
theorem cg_pw (x:Int) (n:Nat):cg (pw x n) (x ^ n):=cg_mod _
def pv : List Int→Int→Int
 | [],_=>0
 | c::r,x=>c+x*pv r x
def ss (z:Nat→Int) (f s:Nat):Nat→Int→Int
 | 0,_=>0
 | c+1,x=>z f+x*ss z (f+s) s c x
theorem ss_cg {x y:Int} (h:cg x y) (z:Nat→Int) (s c:Nat):∀ f,cg (ss z f s c x) (ss z f s c y):=by
 induction c with
 | zero=>intro f;exact cg.refl _
 | succ c ih=>intro f;exact (cg.refl _).add (h.mul (ih _))
theorem pv_ss (l:List Int) (x:Int):∀ c f,f+c=l.length→ss (fun i=>l.getD i 0) f 1 c x=pv (l.drop f) x:=by
 intro c
 induction c with
 | zero=>intro f h;rw [List.drop_of_length_le (by omega)];rfl
 | succ c ih =>
  intro f h;rw [List.drop_eq_getElem_cons (by omega)];simp only [ss,pv];rw [ih (f+1) (by omega),List.getD_eq_getElem?_getD,List.getElem?_eq_getElem (by omega)];rfl
theorem pv_all (l:List Int) (x:Int):ss (fun i=>l.getD i 0) 0 1 l.length x=pv l x:=by
 have:=pv_ss l x l.length 0 (by omega);simpa using this
theorem pv_cg {x y:Int} (h:cg x y) (l:List Int):cg (pv l x) (pv l y):=by
 rw [← pv_all,← pv_all];exact ss_cg h _ _ _ _
theorem pv_append (a b:List Int) (x:Int):pv (a++b) x=pv a x+x ^ a.length*pv b x:=by
 induction a with
 | nil=>simp [pv]
 | cons c r ih =>
  simp only [List.cons_append,pv,List.length_cons];rw [ih,Int.pow_succ];generalize x ^ r.length=y
  grind
theorem pv_take (zs:List Int) (x:Int) {i:Nat} (h:i<zs.length):pv (zs.take (i+1)) x=pv (zs.take i) x+zs.getD i 0*x ^ i:=by
 rw [List.take_succ_eq_append_getElem h,pv_append,List.length_take,Nat.min_eq_left (by omega),List.getD_eq_getElem?_getD,List.getElem?_eq_getElem h];simp only [pv,Option.getD_some]
 grind
theorem pv_set (zs:List Int) (x v:Int):∀ {k:Nat},k<zs.length→pv (zs.set k v) x=pv zs x+(v-zs.getD k 0)*x ^ k:=by
 induction zs with
 | nil=>intro k h;simp at h
 | cons c r ih =>
  intro k h
  cases k with
  | zero=>simp [pv];grind
  | succ k =>
   rw [List.set_cons_succ];simp only [pv];rw [ih (by simpa using h),List.getD_cons_succ,Int.pow_succ];generalize x ^ k=y;generalize r.getD k 0=q
   grind
theorem pow_wrap {x:Int} {n:Nat} (h:cg (x ^ n) 1) (i:Nat):cg (x ^ i) (x ^ (i % n)):=by
 have e:x ^ i=(x ^ n) ^ (i / n)*x ^ (i % n):=by
  rw [← Int.pow_mul,← Int.pow_add,Nat.div_add_mod]
 rw [e];have h2:=(h.pow (i / n)).mul (cg.refl (x ^ (i % n)));rw [Int.one_pow,Int.one_mul] at h2;exact h2
theorem pv_zeros (n:Nat) (x:Int):pv (List.replicate n 0) x=0:=by
 induction n with
 | zero=>rfl
 | succ n ih=>rw [List.replicate_succ];simp [pv,ih]
theorem getD_set (l:List Int) (k i:Nat) (v:Int):(l.set k v).getD i 0=if k=i∧i<l.length then v else l.getD i 0:=by
 rw [List.getD_eq_getElem?_getD,List.getElem?_set,List.getD_eq_getElem?_getD];by_cases e:k=i
 ·
  subst e;by_cases h:k<l.length
  · simp [h]
  · simp [h]
 · simp [e]
theorem pv_scale {zs ys:List Int} (s x:Int) (hl:ys.length=zs.length) (h:∀ i,i<zs.length→cg (ys.getD i 0) (zs.getD i 0*s ^ i)):cg (pv ys x) (pv zs (s*x)):=by
 have key:∀ i,i≤zs.length→cg (pv (ys.take i) x) (pv (zs.take i) (s*x)):=by
  intro i
  induction i with
  | zero=>intro _;exact cg.refl _
  | succ i ih =>
   intro hi;rw [pv_take _ _ (by omega),pv_take _ _ (by omega)];refine (ih (by omega)).add ?_;have h2:=(h i (by omega)).mul (cg.refl (x ^ i));rw [Int.mul_pow,← Int.mul_assoc];exact h2
 have:=key zs.length (Nat.le_refl _)
 rwa [List.take_of_length_le (by omega),List.take_length] at this
end M
theorem ret_int {k:IntKind} {a b:Int} (h:a=b):Ending.returned (.int k a)=.returned (.int k b):=by rw [h]
theorem ret_bool {a b:Bool} (h:a=b):Ending.returned (.bool a)=.returned (.bool b):=by rw [h]
set_option maxHeartbeats 400000 in
theorem l1F_any (a:Int) (w:World) :
  Calls Tryz.prog 89 #[.int .i64 a] w fun e w'=>e=.returned (.bool (M.el a))∧w'=w:=by
 by_cases h0:0≤a
 ·
  by_cases h1:a<65537
  ·
   have e:M.el a=true:=(by simp [M.el,h0,h1]);have E:H9 (M.el a=true):=e;clear e;go_enter Tryz.func89,Tryz.ntmps89;go_wp2;go_ret;exact ⟨ret_bool E.o.symm,rfl⟩
  ·
   have e:M.el a=false:=(by simp [M.el];omega);have E:H9 (M.el a=false):=e;clear e;go_enter Tryz.func89,Tryz.ntmps89;go_wp2;go_ret;exact ⟨ret_bool E.o.symm,rfl⟩
 ·
  have e:M.el a=false:=(by simp [M.el];omega);have E:H9 (M.el a=false):=e;clear e;go_enter Tryz.func89,Tryz.ntmps89;go_wp2;go_ret;exact ⟨ret_bool E.o.symm,rfl⟩
set_option maxHeartbeats 400000 in
theorem elementOf_in (a:Int) (w:World) (h0:0≤a) (h1:a<65537) :
  Calls Tryz.prog 142 #[.int .i64 a] w fun e w'=>e=.returned (.tuple #[.int .i64 a,.bool true])∧w'=w:=by
 go_enter Tryz.func142,Tryz.ntmps142;go_wp2
 go_ret2
 exact ⟨rfl,rfl⟩
set_option maxHeartbeats 400000 in
theorem elementOf_out (a:Int) (w:World) (h:a<0∨65537≤a) :
  Calls Tryz.prog 142 #[.int .i64 a] w fun e w'=>e=.returned (.tuple #[.int .i64 0,.bool false])∧w'=w:=by
 rcases h with h | h
 ·
  go_enter Tryz.func142,Tryz.ntmps142;go_wp2
  go_ret2
  exact ⟨rfl,rfl⟩
 ·
  have h':¬ a<0:=(by omega);go_enter Tryz.func142,Tryz.ntmps142;go_wp2
  go_ret2
  exact ⟨rfl,rfl⟩
set_option maxHeartbeats 400000 in
theorem plus_any (a b:Int) (w:World) (a0:0≤a) (a1:a<65537) (b0:0≤b) (b1:b<65537) :
  Calls Tryz.prog 176 #[.int .i64 a,.int .i64 b] w fun e w'=>e=.returned (.int .i64 ((a+b) % 65537))∧w'=w:=by
 go_enter Tryz.func176,Tryz.ntmps176;go_wp2;go_ret;exact ⟨rfl,rfl⟩
set_option maxHeartbeats 400000 in
theorem times_any (a b:Int) (w:World) (a0:0≤a) (a1:a<65537) (b0:0≤b) (b1:b<65537) :
  Calls Tryz.prog 175 #[.int .i64 a,.int .i64 b] w fun e w'=>e=.returned (.int .i64 (a*b % 65537))∧w'=w:=by
 have hb:=M.mul_bd a0 a1 b0 b1;obtain ⟨m0,m1⟩:=hb;go_enter Tryz.func175,Tryz.ntmps175;go_wp2;go_ret;exact ⟨rfl,rfl⟩
set_option maxHeartbeats 400000 in
theorem specAdd_any (a b:Int) (w:World) :
  Calls Tryz.prog 143 #[.int .i64 a,.int .i64 b] w fun e w'=>e=.returned (.int .i64 (M.add a b))∧w'=w:=by
 cases ha:M.el a with
 | true=>cases hb:M.el b with
  | true =>
   have E:H9 (M.add a b=(a+b) % 65537):=M.add_in ha hb;have ha':=ha;have hb':=hb;obtain ⟨a0,a1⟩:=(M.el_iff a).1 ha';obtain ⟨b0,b1⟩:=(M.el_iff b).1 hb';clear ha' hb';go_enter Tryz.func143,Tryz.ntmps143;(go_wp2_with fail);refine (l1F_any a _).mono ?_;rintro e w' ⟨rfl,rfl⟩;(go_wp2_with fail);refine (l1F_any b _).mono ?_;rintro e w' ⟨rfl,rfl⟩;go_wp2;go_ret;exact ⟨ret_int E.o.symm,rfl⟩
  | false =>
   have E:H9 (M.add a b = -1):=M.add_r hb;go_enter Tryz.func143,Tryz.ntmps143;(go_wp2_with fail);refine (l1F_any a _).mono ?_;rintro e w' ⟨rfl,rfl⟩;(go_wp2_with fail);refine (l1F_any b _).mono ?_;rintro e w' ⟨rfl,rfl⟩;go_wp2;go_ret;exact ⟨ret_int E.o.symm,rfl⟩
 | false =>
  have E:H9 (M.add a b = -1):=M.add_l ha;go_enter Tryz.func143,Tryz.ntmps143;(go_wp2_with fail);refine (l1F_any a _).mono ?_;rintro e w' ⟨rfl,rfl⟩;go_wp2;go_ret;exact ⟨ret_int E.o.symm,rfl⟩
structure Sees (w : World) (a : Option Addr) (n cap : Nat) (zs : List Int) : Prop where
 len:zs.length=n
 le:n≤cap
 big:(cap:Int)≤9223372036854775807
 no:a=none→n=0∧cap=0
 pos:n=0∨∃ b off,a=some ⟨b,off,none⟩∧∀ i,i<n→w.cell? ⟨b,off+i,none⟩=some (.int .i64 (zs.getD i 0))
theorem Below.drewN' {B:Nat} {a w:World} (h:Below B a w) (n:Nat):Below B a (w.drewN n):=⟨h.os,h.tape,h.output,h.size,h.block⟩
theorem Sees.of_cells {w w':World} {a:Option Addr} {n cap:Nat} {zs:List Int} (h:Sees w a n cap zs) (hc:∀ (p:Addr) (v:Value),w.cell? p=some v→(∃ x,a=some x∧x.block=p.block)→w'.cell? p=some v):Sees w' a n cap zs:=by
 refine ⟨h.len,h.le,h.big,h.no,?_⟩
 rcases h.pos with e | ⟨b,off,e,hb⟩
 · exact .inl e
 · exact .inr ⟨b,off,e,fun i hi=>hc _ _ (hb i hi) ⟨_,e,rfl⟩⟩
theorem Sees.below {w w':World} {a:Option Addr} {n cap:Nat} {zs:List Int} (h:Sees w a n cap zs) (hb:Below w.heap.size w w'):Sees w' a n cap zs:=
 h.of_cells fun p _ hp _=>(hb.cell (p:=p) (World.block_lt_of_cell? w p hp)).trans hp
theorem Sees.drewN {w:World} {a:Option Addr} {n cap:Nat} {zs:List Int} (h:Sees w a n cap zs) (k:Nat):Sees (w.drewN k) a n cap zs:=
 h.of_cells fun _ _ hp _=>hp
theorem Sees.nil {w:World} {a:Option Addr} {cap:Nat} {zs:List Int} (h:Sees w a 0 cap zs):zs=[]:=List.eq_nil_of_length_eq_zero h.len
theorem Sees.at {w:World} {a:Option Addr} {n cap:Nat} {zs:List Int} (h:Sees w a n cap zs) (h0:0<n):∃ b off,a=some ⟨b,off,none⟩∧∀ i,i<n→w.cell? ⟨b,off+i,none⟩=some (.int .i64 (zs.getD i 0)):=by
 rcases h.pos with e | e
 · omega
 · exact e
theorem eq_ne {zs ys:List Int} {k:Nat} (h:zs.getD k 0≠ys.getD k 0):zs≠ys:=fun e=>h (by rw [e])
theorem eq_all {zs ys:List Int} (hl:zs.length=ys.length) (h:∀ i,i<zs.length→zs.getD i 0=ys.getD i 0):zs=ys:=by
 apply List.ext_getElem hl;intro i h1 h2;have:=h i h1;simpa [List.getD_eq_getElem?_getD,List.getElem?_eq_getElem h1,List.getElem?_eq_getElem h2] using this
set_option maxHeartbeats 1000000 in
theorem eqS_any {a b:Option Addr} {n m c d:Nat} {zs ys:List Int} (w:World) (hz:Sees w a n c zs) (hy:Sees w b m d ys) :
  Calls Tryz.prog 38 #[.slice a n c,.slice b m d] w fun e w'=>e=.returned (.bool (decide (zs=ys)))∧∃ k,w'=w.drewN k:=by
 have bn:(n:Int)≤9223372036854775807:=(by have:=hz.big;have:=hz.le;omega);have bm:(m:Int)≤9223372036854775807:=(by have:=hy.big;have:=hy.le;omega);by_cases hl:n=m
 ·
  subst hl;by_cases h0:0<n
  ·
   obtain ⟨b1,o1,rfl,Aa⟩:=hz.at h0;obtain ⟨b2,o2,rfl,Ba⟩:=hy.at h0;have L:H9 (zs.length=n∧ys.length=n):=⟨hz.len,hy.len⟩;have Ga:=Hd (Aa);have Ha:=Hd (Ba);have Ia:((n:Int) != (n:Int))=false:=(by simp);clear hz hy Aa Ba;go_enter Tryz.func38,Tryz.ntmps38;go_wp2
   go_loopw [5] (fun i wr=>∃ k q:Nat,k≤n∧i=it k∧wr=w.drewN q∧∀ j,j<k→zs.getD j 0=ys.getD j 0) (fun i _=>n-(intOf i).toNat)
   case atStart=>exact ⟨0,0,by omega,rfl,rfl,fun j h=>by omega⟩
   case round =>
    obtain ⟨k,q,hk,rfl,rfl,Ca⟩:=hrel;have HA:=Hd (Ca);clear Ca;by_cases Da:k<n
    ·
     have c1:=Ga.o k Da;have c2:=Ha.o k Da;generalize hx:zs.getD k 0=x at c1;generalize Ea:ys.getD k 0=y at c2;have HX:=Hd (hx);have HY:=Hd (Ea);have hI:(k:Int)<(n:Int):=(by omega);clear hx Ea;by_cases he:x=y
     ·
      have hb:(x != y)=false:=(by simp [he]);have HE:H9 (x=y):=he;clear he;go_wp2
      go_quiet (fail)
      go_wp2;go_roundw
      case rel =>
       refine ⟨k+1,_,by omega,by go_num,rfl,fun j hj=>?_⟩;by_cases e:j=k
       · subst e;rw [HX.o,HY.o,HE.o]
       · exact HA.o j (by omega)
      case measure=>simp [intOf];omega
     ·
      have hb:(x != y)=true:=(by simp [he]);have HE:H9 (x≠y):=he;clear he;go_wp2
      go_quiet (fail)
      go_wp2;go_ret;refine ⟨ret_bool ?_,_,World.drewN_drewN _ _ _⟩;exact (decide_eq_false (eq_ne (k:=k) (by rw [HX.o,HY.o];exact HE.o))).symm
    ·
     have Fa:k=n:=(by omega);have HK:H9 (k=n):=Fa;clear Fa;go_wp2;go_ret;refine ⟨ret_bool ?_,_,rfl⟩;exact (decide_eq_true (eq_all (L.o.1.trans L.o.2.symm) (fun i hi=>HA.o i (by rw [HK.o,← L.o.1];exact hi)))).symm
  ·
   have e0:n=0:=(by omega);subst e0;have e1:=hz.nil;have e2:=hy.nil;subst e1 e2;clear hz hy;go_enter Tryz.func38,Tryz.ntmps38;go_wp2;refine wp_loop_rounds 1 ?_;rw [rounds_succ];go_wp2;go_ret;exact ⟨rfl,0,rfl⟩
 ·
  have Ia:((n:Int) != (m:Int))=true:=(by simp;omega);have E:H9 (zs≠ys):=(by show zs≠ys;intro e;apply hl;rw [← hz.len,← hy.len,e]);clear hz hy;go_enter Tryz.func38,Tryz.ntmps38;go_wp2;go_ret;exact ⟨ret_bool (decide_eq_false E.o).symm,0,rfl⟩
def M.allEl (zs:List Int):Bool:=zs.all M.el
theorem M.all_take {zs:List Int} {k:Nat} (h:(zs.take k).all M.el=true) (hk:k<zs.length) (he:M.el (zs.getD k 0)=true):(zs.take (k+1)).all M.el=true:=by
 rw [List.take_succ_eq_append_getElem hk,List.all_append,h];simpa [List.getD_eq_getElem?_getD,List.getElem?_eq_getElem hk] using he
theorem M.all_no {zs:List Int} {k:Nat} (hk:k<zs.length) (he:M.el (zs.getD k 0)=false):M.allEl zs=false:=by
 unfold M.allEl;rw [List.all_eq_false];refine ⟨zs.getD k 0,?_,by rw [he];simp⟩;rw [List.getD_eq_getElem?_getD,List.getElem?_eq_getElem hk];exact List.getElem_mem _
set_option maxHeartbeats 1000000 in
theorem l1All_any {a:Option Addr} {n c:Nat} {zs:List Int} (w:World) (hz:Sees w a n c zs) :
  Calls Tryz.prog 124 #[.slice a n c] w fun e w'=>e=.returned (.bool (M.allEl zs))∧w'=w:=by
 have bn:(n:Int)≤9223372036854775807:=(by have:=hz.big;have:=hz.le;omega);have HZ:=Hd (hz);clear hz;go_enter Tryz.func124,Tryz.ntmps124;go_wp2
 go_loop [3] (fun i=>∃ k:Nat,k≤n∧i=it k∧(zs.take k).all M.el=true) (fun i=>n-(intOf i).toNat)
 case atStart=>exact ⟨0,by omega,rfl,rfl⟩
 case round =>
  obtain ⟨k,hk,rfl,Ba⟩:=hrel;have HA:=Hd (Ba);clear Ba;by_cases Aa:k<n
  ·
   obtain ⟨b1,o1,rfl,Ca⟩:=HZ.o.at (by omega);have c1:=Ca k Aa;clear Ca;generalize hx:zs.getD k 0=x at c1;have HX:=Hd (hx);clear hx
   cases he:M.el x with
   | true =>
    (go_wp2_with fail);refine (l1F_any _ _).mono ?_;rintro e w' ⟨rfl,rfl⟩;have HE:=Hd (he);go_wp2
    go_round
    case rel=>exact ⟨k+1,by omega,by go_num,M.all_take HA.o (by rw [HZ.o.len];exact Aa) (by rw [HX.o];exact HE.o)⟩
    case measure=>simp [intOf];omega
   | false =>
    (go_wp2_with fail);refine (l1F_any _ _).mono ?_;rintro e w' ⟨rfl,rfl⟩;have HE:=Hd (he);go_wp2;go_ret;exact ⟨ret_bool (M.all_no (by rw [HZ.o.len];exact Aa) (by rw [HX.o];exact HE.o)).symm,rfl⟩
  ·
   go_wp2;go_ret;refine ⟨ret_bool ?_,rfl⟩;have h:=HA.o;rw [List.take_of_length_le (by rw [HZ.o.len];omega)] at h;exact h.symm
end Go.Proofs.YtfhknkppiidnkaaGreat
