import PyProof.Rows.All
import Wide.All
import OpenK.AllK
import Wide.FinOn
import PyProof.EqAt
import PyProof.EqKinds
import PyProof.TupleCall
import KE.BitLaws
import Open.SpecLaws
import KE.OsHead
import KE.OsGo
import KE.KNestM
import PySem.Challenge.RW_shortrowsdesk_s01_answers
set_option Elab.async false
set_option linter.all false
set_option maxRecDepth 100000
set_option maxHeartbeats 8000000
set_option compiler.extract_closed false
set_option bootstrap.genMatcherCode false
set_option genSizeOf false
abbrev aEZ:=@List.mem_cons
abbrev aFa:=@Option.some.inj
abbrev aFb:=@List.length_append
abbrev aFc:=@decide_eq_true
abbrev aFd:=@List.length_map
abbrev aFe:=@List.getD_eq_getElem?_getD
abbrev aFf:=@of_decide_eq_true
abbrev aFg:=@Bool.and_eq_true
abbrev aFh:=@List.mem_cons_self
abbrev aFi:=@Nat.le_refl
abbrev aFj:=@List.length_reverse
abbrev aFk:=@List.mem_cons_of_mem
abbrev aFl:=@Int.toNat_natCast
abbrev aFm:=@Bool.and_true
abbrev aFo:=@List.size_toArray
abbrev aFp:=@List.length_drop
abbrev aFq:=@List.length_take
abbrev aFr:=@List.reverse_cons
abbrev aFs:=@Nat.lt_of_lt_of_le
abbrev aFt:=@Nat.le_trans
abbrev aFu:=@List.getElem?_append_right
abbrev aFv:=@List.getElem?_eq_getElem
abbrev aFw:=@Int.natCast_mul
abbrev aFx:=@Nat.zero_le
abbrev aFy:=@List.length_range
abbrev aFz:=@List.mem_map
abbrev aFA:=@Classical.byContradiction
abbrev aFB:=@List.nodup_cons
abbrev aFC:=@List.map_append
abbrev aFD:=@List.lookup_cons
abbrev aFE:=@List.map_congr_left
abbrev aFF:=@List.mem_singleton
abbrev aFG:=@beq_eq_false_iff_ne
abbrev aFH:=@List.getElem?_map
abbrev aFI:=@List.flatten_cons
abbrev aFJ:=@List.append_assoc
abbrev aFK:=@List.getElem?_append_left
abbrev aFL:=@List.length_replicate
abbrev aFM:=@List.all_eq_true
abbrev aFN:=@Nat.mod_lt
abbrev aFO:=@List.mem_of_getElem?
abbrev aFP:=@List.getElem?_take_of_lt
abbrev aFQ:=@List.getElem?_eq_some_iff
abbrev aFR:=@List.mem_append_right
abbrev aFS:=@Nat.and_two_pow_sub_one_eq_mod
abbrev aFT:=@Nat.div_lt_iff_lt_mul
abbrev aFU:=@Bool.or_eq_true
theorem aD{A B:Prop}{R:Prop}:(A∧B)→(A→B→R)→R:=by rintro⟨a,b⟩ k;exact k a b
theorem aF{A B C:Prop}{R:Prop}:(A∧B∧C)→(A→B→C→R)→R:=by rintro⟨a,b,c⟩ k;exact k a b c
theorem aG{A B C D:Prop}{R:Prop}:(A∧B∧C∧D)→(A→B→C→D→R)→R:=by rintro⟨a,b,c,d⟩ k;exact k a b c d
theorem aL{A B C D E:Prop}{R:Prop}:(A∧B∧C∧D∧E)→(A→B→C→D→E→R)→R:=by rintro⟨a,b,c,d,e⟩ k;exact k a b c d e
theorem aK{A B C D E F:Prop}{R:Prop}:(A∧B∧C∧D∧E∧F)→(A→B→C→D→E→F→R)→R:=by rintro⟨a,b,c,d,e,f⟩ k;exact k a b c d e f
theorem aV{t:Sort _}{A:t→Prop}{R:Prop}:(∃ x,A x)→(∀ x,A x→R)→R:=by rintro⟨x,a⟩ k;exact k x a
theorem aA{t:Sort _}{A B:t→Prop}{R:Prop}:(∃ x,A x∧B x)→(∀ x,A x→B x→R)→R:=by rintro⟨x,a,b⟩ k;exact k x a b
theorem aC{t:Sort _}{A B C:t→Prop}{R:Prop}:(∃ x,A x∧B x∧C x)→(∀ x,A x→B x→C x→R)→R:=by rintro⟨x,a,b,c⟩ k;exact k x a b c
theorem aR{t:Sort _}{A B C D:t→Prop}{R:Prop}:(∃ x,A x∧B x∧C x∧D x)→(∀ x,A x→B x→C x→D x→R)→R:=by rintro⟨x,a,b,c,d⟩ k;exact k x a b c d
theorem aO{t:Sort _}{A B C D E:t→Prop}{R:Prop}:(∃ x,A x∧B x∧C x∧D x∧E x)→(∀ x,A x→B x→C x→D x→E x→R)→R:=by rintro⟨x,a,b,c,d,e⟩ k;exact k x a b c d e
theorem aU{t:Sort _}{A B C D E F:t→Prop}{R:Prop}:(∃ x,A x∧B x∧C x∧D x∧E x∧F x)→(∀ x,A x→B x→C x→D x→E x→F x→R)→R:=by rintro⟨x,a,b,c,d,e,f⟩ k;exact k x a b c d e f
theorem aW{t s:Sort _}{A:t→s→Prop}{R:Prop}:(∃ x y,A x y)→(∀ x y,A x y→R)→R:=by rintro⟨x,y,a⟩ k;exact k x y a
theorem aH{t s:Sort _}{A B:t→s→Prop}{R:Prop}:(∃ x y,A x y∧B x y)→(∀ x y,A x y→B x y→R)→R:=by rintro⟨x,y,a,b⟩ k;exact k x y a b
theorem aB{t s:Sort _}{A B C:t→s→Prop}{R:Prop}:(∃ x y,A x y∧B x y∧C x y)→(∀ x y,A x y→B x y→C x y→R)→R:=by rintro⟨x,y,a,b,c⟩ k;exact k x y a b c
theorem aN{t s:Sort _}{A B C D:t→s→Prop}{R:Prop}:(∃ x y,A x y∧B x y∧C x y∧D x y)→(∀ x y,A x y→B x y→C x y→D x y→R)→R:=by rintro⟨x,y,a,b,c,d⟩ k;exact k x y a b c d
theorem aT{t s:Sort _}{A B C D E:t→s→Prop}{R:Prop}:(∃ x y,A x y∧B x y∧C x y∧D x y∧E x y)→(∀ x y,A x y→B x y→C x y→D x y→E x y→R)→R:=by rintro⟨x,y,a,b,c,d,e⟩ k;exact k x y a b c d e
theorem aI{t s:Sort _}{A B C D E F:t→s→Prop}{R:Prop}:(∃ x y,A x y∧B x y∧C x y∧D x y∧E x y∧F x y)→(∀ x y,A x y→B x y→C x y→D x y→E x y→F x y→R)→R:=by rintro⟨x,y,a,b,c,d,e,f⟩ k;exact k x y a b c d e f
theorem aE{t s u:Sort _}{A:t→s→u→Prop}{R:Prop}:(∃ x y z,A x y z)→(∀ x y z,A x y z→R)→R:=by rintro⟨x,y,z,a⟩ k;exact k x y z a
theorem aP{t s u:Sort _}{A B:t→s→u→Prop}{R:Prop}:(∃ x y z,A x y z∧B x y z)→(∀ x y z,A x y z→B x y z→R)→R:=by rintro⟨x,y,z,a,b⟩ k;exact k x y z a b
theorem aJ{t s u:Sort _}{A B C:t→s→u→Prop}{R:Prop}:(∃ x y z,A x y z∧B x y z∧C x y z)→(∀ x y z,A x y z→B x y z→C x y z→R)→R:=by rintro⟨x,y,z,a,b,c⟩ k;exact k x y z a b c
theorem aQ{t s u:Sort _}{A B C D:t→s→u→Prop}{R:Prop}:(∃ x y z,A x y z∧B x y z∧C x y z∧D x y z)→(∀ x y z,A x y z→B x y z→C x y z→D x y z→R)→R:=by rintro⟨x,y,z,a,b,c,d⟩ k;exact k x y z a b c d
theorem aS{t s u:Sort _}{A B C D E:t→s→u→Prop}{R:Prop}:(∃ x y z,A x y z∧B x y z∧C x y z∧D x y z∧E x y z)→(∀ x y z,A x y z→B x y z→C x y z→D x y z→E x y z→R)→R:=by rintro⟨x,y,z,a,b,c,d,e⟩ k;exact k x y z a b c d e
theorem aX{t s u:Sort _}{A B C D E F:t→s→u→Prop}{R:Prop}:(∃ x y z,A x y z∧B x y z∧C x y z∧D x y z∧E x y z∧F x y z)→(∀ x y z,A x y z→B x y z→C x y z→D x y z→E x y z→F x y z→R)→R:=by rintro⟨x,y,z,a,b,c,d,e,f⟩ k;exact k x y z a b c d e f
namespace BM
open Br
theorem zH(x m k:Nat):x &&& (m*2 ^ k)=((x / 2 ^ k) &&& m)*2 ^ k:=by
 apply Nat.eq_of_testBit_eq;intro i;rw[Nat.testBit_and,Nat.mul_comm m,Nat.mul_comm _ (2 ^ k),Nat.testBit_two_pow_mul,Nat.testBit_two_pow_mul,Nat.testBit_and,Nat.testBit_div_two_pow];by_cases h:k≤i
 ·simp [h]
 ·simp [h]
theorem J0(x k:Nat):x &&& 2 ^ k=x / 2 ^ k % 2*2 ^ k:=by
 have h:=zH x 1 k;rw[Nat.one_mul] at h;rw[h];have h1:=aFS (x / 2 ^ k) 1;rw[show (2:Nat) ^ 1-1=1 from rfl,show (2:Nat) ^ 1=2 from rfl] at h1;rw[h1]
theorem DG(m:Nat):∀ n:Nat,(m ||| n)+(m &&& n)=m+n:=by
 induction m using Nat.strongRecOn with
 | _ m ih=>
  intro n;by_cases h0:m=0
  ·subst h0;simp
  ·have ih':=ih (m / 2) (by omega) (n / 2);rw[←Nat.or_div_two,←Nat.and_div_two] at ih';have o1:=@Nat.or_mod_two_eq_one m n;have a1:=@Nat.and_mod_two_eq_one m n;omega
theorem OQ(x k:Nat):x ||| 2 ^ k=if x / 2 ^ k % 2=1 then x else x+2 ^ k:=by
 have h:=DG x (2 ^ k);rw[J0] at h;by_cases e:x / 2 ^ k % 2=1
 ·rw[if_pos e];rw[e] at h;omega
 ·rw[if_neg e];have e0:x / 2 ^ k % 2=0:=by omega
  rw[e0] at h;omega
theorem VU(a b k:Nat)(h:a<2 ^ k):a ||| b*2 ^ k=a+b*2 ^ k:=by
 have h1:=DG a (b*2 ^ k);rw[zH,Nat.div_eq_of_lt h] at h1;simp at h1;exact h1
theorem QJ(a b k:Nat):(a ^^^ b) / 2 ^ k % 2=(a / 2 ^ k+b / 2 ^ k) % 2:=by
 have h:=Nat.testBit_xor a b k;rw[Nat.testBit_eq_decide_div_mod_eq,Nat.testBit_eq_decide_div_mod_eq,Nat.testBit_eq_decide_div_mod_eq] at h;have d1:a / 2 ^ k % 2=0∨a / 2 ^ k % 2=1:=by omega
 have d2:b / 2 ^ k % 2=0∨b / 2 ^ k % 2=1:=by omega
 have d3:(a ^^^ b) / 2 ^ k % 2=0∨(a ^^^ b) / 2 ^ k % 2=1:=by omega
 rcases d1 with d1 | d1 <;> rcases d2 with d2 | d2 <;> rcases d3 with d3 | d3 <;> simp [d1,d2,d3] at h <;> omega
theorem yW{x:Nat}(h:x<4294967296):isNan x=decide (2139095040<x % 2147483648):=by
 unfold isNan expOf fracOf;rw[show (2:Nat) ^ 23=8388608 from rfl];by_cases e:2139095040<x % 2147483648
 ·rw[aFc e];have h1:x / 8388608 % 256=255:=by omega
  have h2:x % 8388608≠0:=by omega
  simp [h1,h2]
 ·rw[decide_eq_false e];by_cases h1:x / 8388608 % 256=255
  ·have h2:x % 8388608=0:=by omega
   simp [h2]
  ·simp [h1]
theorem sW{x:Nat}(h:x<4294967296):isInf x=decide (x % 2147483648=2139095040):=by
 unfold isInf expOf fracOf;rw[show (2:Nat) ^ 23=8388608 from rfl];by_cases e:x % 2147483648=2139095040
 ·rw[aFc e];have h1:x / 8388608 % 256=255:=by omega
  have h2:x % 8388608=0:=by omega
  simp [h1,h2]
 ·rw[decide_eq_false e];by_cases h1:x / 8388608 % 256=255
  ·have h2:x % 8388608≠0:=by omega
   simp [h2]
  ·simp [h1]
theorem j5(a:Nat):wide a<4294967296:=by unfold wide;omega
theorem A9{a:Nat}(h:a<65536):wide a=a*65536:=by unfold wide;omega
theorem dC{x:Nat}(h:x<4294967296):narrowed x<65536:=by
 unfold narrowed quiet;rw[yW h,sW h];unfold isSmall expOf neg;rw[show (2:Nat) ^ 23=8388608 from rfl,show (2:Nat) ^ 22=4194304 from rfl,show (2:Nat) ^ 16=65536 from rfl,show (2:Nat) ^ 15=32768 from rfl,show (2:Nat) ^ 31=2147483648 from rfl];by_cases e1:2139095040<x % 2147483648
 ·rw[if_pos (aFc e1)]
  split <;> omega
 ·rw[if_neg (by simp;omega)];by_cases e2:x % 2147483648=2139095040
  ·rw[if_pos (aFc e2)];omega
  ·rw[if_neg (by simpa using e2)];by_cases e3:x / 8388608 % 256=0
   ·rw[if_pos (by simpa using e3)]
    split <;> omega
   ·rw[if_neg (by simpa using e3)];omega
theorem FN{x:Nat}(h:x<4294967296)(hn:isNan x=false)(hs:isSmall x=false):narrowed x=(x+32767+x / 65536 % 2) / 65536:=by
 unfold narrowed;rw[hn,hs,sW h,if_neg (by decide)];rw[yW h] at hn;have hn':=of_decide_eq_false hn;by_cases e2:x % 2147483648=2139095040
 ·rw[if_pos (aFc e2)];show x / 65536=_;omega
 ·rw[if_neg (by simpa using e2),if_neg (by decide)]
  all_goals rfl
theorem AE{n:Nat}(h:n≠0):2 ^ n.log2≤n∧n<2 ^ (n.log2+1):=⟨Nat.log2_self_le h,Nat.lt_log2_self⟩
theorem RD{n L:Nat}(h1:2 ^ L≤n)(h2:n<2 ^ (L+1)):n.log2=L:=by
 have hn:n≠0:=by
  have:=Nat.two_pow_pos L;lia
 have a:=(Nat.le_log2 hn).mpr h1;have b:=(Nat.log2_lt hn).mpr h2;lia
theorem JO{n q:Nat}(hq:0<q):(4*n+2*q-1+n / q % 2) / (4*q)=(if 2*(n % q)<q then n / q else if q<2*(n % q) then n / q+1 else if n / q % 2=0 then n / q else n / q+1):=by
 have e:=Nat.div_add_mod n q;have hr:=aFN n hq;generalize hd:n / q=d at e ⊢;generalize hm:n % q=r at e hr ⊢;have hodd:d % 2<2:=aFN _ (by decide);have key:4*n+2*q-1+d % 2=(4*q)*d+(4*r+2*q-1+d % 2):=by
  have:(4*q)*d=4*(q*d):=Nat.mul_assoc 4 q d;lia
 rw[key,Nat.mul_add_div (by lia)];have small:∀ z,z<4*q→z / (4*q)=0:=fun z hz=>Nat.div_eq_of_lt hz;have big:∀ z,4*q≤z→z<2*(4*q)→z / (4*q)=1:=fun z h1 h2=>by
  have a:1≤z / (4*q):=(Nat.le_div_iff_mul_le (by lia)).mpr (by lia);have b:z / (4*q)<2:=(aFT (by lia)).mpr (by lia);lia
 by_cases h1:2*r<q
 ·rw[if_pos h1,small _ (by lia)]
  all_goals lia
 ·rw[if_neg h1];by_cases h2:q<2*r
  ·rw[if_pos h2,big _ (by lia) (by lia)]
  ·rw[if_neg h2];by_cases h3:d % 2=0
   ·rw[if_pos h3,small _ (by lia)]
    all_goals lia
   ·rw[if_neg h3,big _ (by lia) (by lia)]
theorem OL{n q:Nat}(hq:q=2 ^ (n.log2+1-24)):rounded n=(4*n+2*q-1+n / q % 2) / (4*q)*q:=by
 have hp:0<q:=by
  rw[hq];exact Nat.two_pow_pos _
 rw[JO hp];unfold rounded;dsimp only;rw[←hq];by_cases h1:2*(n % q)<q
 ·rw[if_pos h1,if_pos h1]
 ·rw[if_neg h1,if_neg h1];by_cases h2:q<2*(n % q)
  ·rw[if_pos h2,if_pos h2]
  ·rw[if_neg h2,if_neg h2];by_cases h3:n / q % 2=0
   ·rw[if_pos h3,if_pos h3]
   ·rw[if_neg h3,if_neg h3]
def p7(n:Nat):Nat:=(4*n+2*2 ^ (n.log2-23)-1+n / 2 ^ (n.log2-23) % 2) / (4*2 ^ (n.log2-23))
theorem MG{n:Nat}(h:23≤n.log2):8388608≤p7 n∧p7 n≤16777216∧rounded n=p7 n*2 ^ (n.log2-23):=by
 have hn:n≠0:=by
  intro e;subst e;have:Nat.log2 0=0:=by decide
  lia
 obtain⟨a,b⟩:=AE hn;generalize hL:n.log2=L at a b h;have e1:2 ^ L=8388608*2 ^ (L-23):=by
  rw[show (8388608:Nat)=2 ^ 23 from rfl,←Nat.pow_add];congr 1;lia
 have e2:2 ^ (L+1)=16777216*2 ^ (L-23):=by
  rw[show (16777216:Nat)=2 ^ 24 from rfl,←Nat.pow_add];congr 1;lia
 have hp:=Nat.two_pow_pos (L-23);have hr:rounded n=p7 n*2 ^ (L-23):=by
  have:=OL (n:=n) (q:=2 ^ (L-23)) (by rw[hL];congr 1;try lia);rw[this];unfold p7;rw[hL]
 refine⟨?_,?_,hr⟩
 ·unfold p7;rw[hL,JO hp];generalize 2 ^ (L-23)=q at *;have h1:8388608≤n / q:=(Nat.le_div_iff_mul_le hp).mpr (by lia)
  split
  ·exact h1
  ·split
   ·lia
   ·split <;> lia
 ·unfold p7;rw[hL,JO hp];generalize 2 ^ (L-23)=q at *;have h1:n / q<16777216:=(aFT hp).mpr (by lia)
  split
  ·lia
  ·split
   ·lia
   ·split <;> lia
def r8(n:Nat):Int:=((n.log2:Int)-172)*8388608+(p7 n:Int)
theorem EK{n:Nat}(h:23≤n.log2):
  (BEYOND≤rounded n∧2139095040≤r8 n)∨(rounded n<LEAST∧rounded n<BEYOND∧r8 n<8388608) ∨
  (¬BEYOND≤rounded n∧¬rounded n<LEAST∧8388608≤r8 n∧r8 n<2139095040∧r8 n=(single (rounded n):Int)):=by
 refine aF (MG h) fun k1 k2 hr=>?_;unfold r8;generalize hL:n.log2=L at *;generalize p7 n=k at *;have C7:∀ {i j:Nat},i≤j→2 ^ i≤2 ^ j:=fun hij=>Nat.pow_le_pow_right (by decide) hij;by_cases hk:k=16777216
 ·have e:rounded n=2 ^ (L+1):=by
   rw[hr,hk,show (16777216:Nat)=2 ^ 24 from rfl,←Nat.pow_add];congr 1;lia
  rw[e];unfold BEYOND LEAST;by_cases c1:425≤L
  ·exact .inl ⟨C7 (by lia),by lia⟩
  ·by_cases c2:L<171
   ·exact .inr (.inl ⟨aFs (Nat.pow_lt_pow_right (by decide) (by lia:L+1<172)) (aFi _),Nat.pow_lt_pow_right (by decide) (by lia),by lia⟩)
   ·refine .inr (.inr ⟨Nat.not_le.mpr (Nat.pow_lt_pow_right (by decide) (by lia)),Nat.not_lt.mpr (C7 (by lia)),by lia,by lia,?_⟩);unfold single;rw[Nat.log2_two_pow,show 2 ^ (L+1) / 2 ^ (L+1-23)=2 ^ 23 from by rw[Nat.pow_div (by lia) (by decide)];congr 1;lia];rw[show (2:Nat) ^ 23=8388608 from rfl];lia
 ·have kl:k<16777216:=by lia
  have hp:=Nat.two_pow_pos (L-23);have e1:2 ^ L=8388608*2 ^ (L-23):=by
   rw[show (8388608:Nat)=2 ^ 23 from rfl,←Nat.pow_add];congr 1;lia
  have e2:2 ^ (L+1)=16777216*2 ^ (L-23):=by
   rw[show (16777216:Nat)=2 ^ 24 from rfl,←Nat.pow_add];congr 1;lia
  have lo:2 ^ L≤rounded n:=by
   rw[e1,hr];exact Nat.mul_le_mul_right _ k1
  have hi:rounded n<2 ^ (L+1):=by
   rw[e2,hr];exact Nat.mul_lt_mul_of_pos_right kl hp
  unfold BEYOND LEAST;by_cases c1:426≤L
  ·exact .inl ⟨aFt (C7 c1) lo,by lia⟩
  ·by_cases c2:L<172
   ·exact .inr (.inl ⟨aFs hi (C7 (by lia)),aFs hi (C7 (by lia)),by lia⟩)
   ·refine .inr (.inr ⟨Nat.not_le.mpr (aFs hi (C7 (by lia))),Nat.not_lt.mpr (aFt (C7 (by lia)) lo),by lia,by lia,?_⟩);unfold single;rw[RD lo hi,hr,Nat.mul_div_cancel _ hp,show (2:Nat) ^ 23=8388608 from rfl];lia
set_option exponentiation.threshold 1000
theorem qP{x:Nat}(h:isSmall x=true):isNan x=false∧isInf x=false:=by
 unfold isSmall at h;rw[beq_iff_eq] at h;unfold isNan isInf;rw[h];exact⟨rfl,rfl⟩
theorem N8{s a b:Nat}(h:isNan (wide a)=true):step s a b=quiet (wide a):=by
 unfold step;rw[if_pos h]
theorem N7{s a b:Nat}(h0:isNan (wide a)=false)(h:isNan (wide b)=true):step s a b=quiet (wide b):=by
 unfold step;rw[if_neg (by rw[h0];decide),if_pos h]
theorem N6{s a b:Nat}(h0:isNan (wide a)=false)(h1:isNan (wide b)=false)(h:isNan s=true):step s a b=quiet s:=by
 unfold step;rw[if_neg (by rw[h0];decide),if_neg (by rw[h1];decide),if_pos h]
theorem sN{s a b:Nat}(h0:isNan (wide a)=false)(h1:isNan (wide b)=false)(h2:isNan s=false):
  step s a b=if noNumber s a b=true then NONE else if infinite a b=true then bits (minus a b) INFINITY else if isInf s=true then s else if exact s a b=0 then bits (neg s&&minus a b) 0 else made (exact s a b):=by
 unfold step;rw[if_neg (by rw[h0];decide),if_neg (by rw[h1];decide),if_neg (by rw[h2];decide)]
theorem aAI{s a b:Nat}(h0:isNan (wide a)=false)(h1:isNan (wide b)=false)(h2:isNan s=false)(ha:isInf (wide a)=false)(hb:isInf (wide b)=false)(hs:isInf s=true):step s a b=s:=by
 rw[sN h0 h1 h2];unfold noNumber infinite;rw[ha,hb,hs];simp
theorem SQ{s a b:Nat}(h0:isNan (wide a)=false)(h1:isNan (wide b)=false)(h2:isNan s=false)(hi:isInf (wide a)=true∨isInf (wide b)=true)(z:isSmall (wide a)=true∨isSmall (wide b)=true):step s a b=4290772992:=by
 rw[sN h0 h1 h2,if_pos]
 ·rfl
 ·unfold noNumber;rcases z with z | z
  ·have i:isInf (wide b)=true:=by
    rcases hi with hi | hi
    ·rw[(qP z).2] at hi;cases hi
    ·exact hi
   rw[z,i];simp
  ·have i:isInf (wide a)=true:=by
    rcases hi with hi | hi
    ·exact hi
    ·rw[(qP z).2] at hi;cases hi
   rw[z,i];simp
theorem gW(x:Nat):neg x=decide (x / 2147483648 % 2=1):=by
 unfold neg;rw[show (2:Nat) ^ 31=2147483648 from rfl,Bool.beq_eq_decide_eq]
def nI(a b:Nat):Nat:=(wide a ^^^ wide b) / 2147483648 % 2*2147483648+2139095040
theorem S8(a b:Nat):(wide a ^^^ wide b) / 2147483648 % 2=if minus a b=true then 1 else 0:=by
 have h:=QJ (wide a) (wide b) 31;rw[show (2:Nat) ^ 31=2147483648 from rfl] at h;rw[h];unfold minus;rw[gW,gW];have d1:wide a / 2147483648 % 2=0∨wide a / 2147483648 % 2=1:=by lia
 have d2:wide b / 2147483648 % 2=0∨wide b / 2147483648 % 2=1:=by lia
 rcases d1 with d1 | d1 <;> rcases d2 with d2 | d2 <;> rw[d1,d2] <;> simp <;> lia
theorem ON(a b:Nat):nI a b=bits (minus a b) INFINITY:=by
 unfold nI bits INFINITY;rw[S8];cases minus a b
 ·rfl
 ·rfl
theorem WO{s:Nat}(hs:s<4294967296)(h:isInf s=true):s=bits (neg s) INFINITY:=by
 rw[sW hs] at h;have h':=aFf h;unfold bits INFINITY;rw[gW];by_cases e:s / 2147483648 % 2=1
 ·rw[if_pos (aFc e)];show s=2147483648+2139095040;lia
 ·rw[if_neg (by simpa using e)];show s=2139095040;lia
theorem XL{c d:Bool}:bits c INFINITY=bits d INFINITY↔c=d:=by
 cases c <;> cases d <;> simp [bits,INFINITY]
theorem SO{s a b:Nat}(hs:s<4294967296)(h0:isNan (wide a)=false)(h1:isNan (wide b)=false)(h2:isNan s=false)(hi:isInf (wide a)=true∨isInf (wide b)=true)(za:isSmall (wide a)=false)(zb:isSmall (wide b)=false):
  step s a b=if isInf s=true∧s≠nI a b then 4290772992 else nI a b:=by
 have hf:infinite a b=true:=by
  unfold infinite;rw[za,zb];rcases hi with hi | hi <;> rw[hi] <;> simp
 rw[sN h0 h1 h2,hf,if_pos rfl,ON];by_cases c:isInf s=true∧s≠bits (minus a b) INFINITY
 ·rw[if_pos c,if_pos]
  ·rfl
  ·unfold noNumber;rw[za,zb,hf,c.1];have e:=WO hs c.1;have ne:neg s≠minus a b:=fun q=>c.2 (by rw[←q];exact e);simp [ne]
 ·rw[if_neg c,if_neg];unfold noNumber;rw[za,zb,hf];by_cases i:isInf s=true
  ·have e:=WO hs i;have q:s=bits (minus a b) INFINITY:=aFA fun z=>c ⟨i,z⟩;have ne:neg s=minus a b:=XL.mp (e.symm.trans q);simp [ne]
  ·simp [i]
def yM(s:Nat):Nat:=if s / 8388608 % 256=0 then 0 else (s % 8388608+8388608)*2 ^ (s / 8388608 % 256+150)
def DF(a b:Nat):Nat:=if a / 128 % 256=0∨b / 128 % 256=0 then 0 else (a % 128+128)*(b % 128+128)*2 ^ (a / 128 % 256+b / 128 % 256+32)
theorem iN{a:Nat}(h:a<65536):expOf (wide a)=a / 128 % 256∧fracOf (wide a)=a % 128*65536:=by
 unfold expOf fracOf;rw[A9 h,show (2:Nat) ^ 23=8388608 from rfl];lia
theorem OE(c d:Bool)(m n:Nat):signed c m*signed d n=signed (c !=d) (m*n):=by
 unfold signed;cases c <;> cases d <;> simp [aFw] <;> (try rw[Int.neg_mul]) <;> (try rw[Int.mul_neg]) <;> (try simp)
theorem vP(c:Bool)(m k:Nat):signed c m*(k:Int)=signed c (m*k):=by
 unfold signed;cases c <;> simp [aFw,Int.neg_mul]
theorem YA(s:Nat):4*(units s*2 ^ 149)=signed (neg s) (yM s):=by
 have e0:(4:Int)*(units s*2 ^ 149)=units s*((2 ^ 151:Nat):Int):=by
  have h1:((2 ^ 151:Nat):Int)=2 ^ 149*4:=by decide
  rw[h1,Int.mul_comm 4,Int.mul_assoc]
 rw[e0];unfold units;rw[vP];congr 1;unfold isSmall expOf fracOf yM;rw[show (2:Nat) ^ 23=8388608 from rfl];by_cases h:s / 8388608 % 256=0
 ·rw[if_pos (by simpa using h),if_pos h,Nat.zero_mul]
 ·rw[if_neg (by simpa using h),if_neg h,Nat.mul_assoc,←Nat.pow_add,Nat.add_comm 8388608];congr 2;lia
theorem UU(m:Nat):2 ^ 23+m*65536=(m+128)*2 ^ 16:=by
 rw[show (2:Nat) ^ 23=8388608 from rfl,show (2:Nat) ^ 16=65536 from rfl];lia
theorem YB{a b:Nat}(ha:a<65536)(hb:b<65536):4*(units (wide a)*units (wide b))=signed (minus a b) (DF a b):=by
 unfold units;rw[OE];have e4:∀ (c:Bool) (m:Nat),4*signed c m=signed c (m*4):=fun c m=>by
  have:=vP c m 4;rw[Int.mul_comm];exact this
 rw[e4];unfold minus;congr 1;unfold isSmall DF;obtain⟨e1,f1⟩:=iN ha;obtain⟨e2,f2⟩:=iN hb;rw[e1,f1,e2,f2];by_cases h1:a / 128 % 256=0
 ·rw[if_pos (show (a / 128 % 256==0)=true by simpa using h1),if_pos (show a / 128 % 256=0∨b / 128 % 256=0 from Or.inl h1),Nat.zero_mul,Nat.zero_mul]
 ·by_cases h2:b / 128 % 256=0
  ·rw[if_pos (show (b / 128 % 256==0)=true by simpa using h2),if_pos (show a / 128 % 256=0∨b / 128 % 256=0 from Or.inr h2),Nat.mul_zero,Nat.zero_mul]
  ·rw[if_neg (show ¬(a / 128 % 256==0)=true by simpa using h1),if_neg (show ¬(b / 128 % 256==0)=true by simpa using h2),if_neg (show ¬(a / 128 % 256=0∨b / 128 % 256=0) by lia)];have x1:=UU (a % 128);have x2:=UU (b % 128);rw[x1,x2,show (4:Nat)=2 ^ 2 from rfl];have p:2 ^ (a / 128 % 256+b / 128 % 256+32)=2 ^ 16*2 ^ (a / 128 % 256-1)*(2 ^ 16*2 ^ (b / 128 % 256-1))*2 ^ 2:=by
    rw[←Nat.pow_add,←Nat.pow_add,←Nat.pow_add,←Nat.pow_add];congr 1;clear x1 x2;lia
   rw[p];simp only[Nat.mul_assoc,Nat.mul_comm,Nat.mul_left_comm]
theorem MQ{s a b:Nat}(ha:a<65536)(hb:b<65536):4*exact s a b=signed (neg s) (yM s)+signed (minus a b) (DF a b):=by
 unfold exact;rw[Int.mul_add,YA,YB ha hb]
theorem U9{s a b:Nat}(h0:expOf (wide a)≠255)(h1:expOf (wide b)≠255)(h2:expOf s≠255):step s a b=if exact s a b=0 then bits (neg s&&minus a b) 0 else made (exact s a b):=by
 have n:∀ x,expOf x≠255→isNan x=false∧isInf x=false:=fun x h=>by
  unfold isNan isInf;simp [h]
 rw[sN (n _ h0).1 (n _ h1).1 (n _ h2).1];unfold noNumber infinite;rw[(n _ h0).2,(n _ h1).2,(n _ h2).2];simp
theorem aBJ{n:Int}{m:Nat}(h:(m:Int)∣n)(hn:n≠0):m≤n.natAbs:=by
 have:=Int.natAbs_dvd_natAbs.mpr h;rw[Int.natAbs_natCast] at this;exact Nat.le_of_dvd (by lia) this
theorem F4{a:Nat}(ha:a<65536):(65536:Int)∣units (wide a):=by
 unfold units;obtain⟨e1,f1⟩:=iN ha;rw[f1,show (2:Nat) ^ 23+a % 128*65536=65536*(a % 128+128) from by lia];have k:∀ (c:Bool) (m:Nat),(65536:Int)∣signed c (65536*m):=fun c m=>by
  unfold signed;cases c
  ·exact⟨m,by simp⟩
  ·exact⟨-m,by simp [Int.mul_neg]⟩
 split
 ·exact k _ 0
 ·rw[Nat.mul_assoc];exact k _ _
theorem HH{s a b:Nat}(ha:a<65536)(hb:b<65536)(h:exact s a b≠0):32≤(exact s a b).natAbs.log2:=by
 have d:((2 ^ 32:Nat):Int)∣exact s a b:=by
  unfold exact;refine Int.dvd_add ?_ ?_
  ·exact⟨units s*2 ^ 117,by rw[show (2:Int) ^ 149=((2 ^ 32:Nat):Int)*2 ^ 117 from by decide,Int.mul_left_comm]⟩
  ·obtain⟨x,ex⟩:=F4 ha;obtain⟨y,ey⟩:=F4 hb;rw[ex,ey];refine⟨x*y,?_⟩;rw[show ((2 ^ 32:Nat):Int)=65536*65536 from by decide];simp only[Int.mul_assoc,Int.mul_comm,Int.mul_left_comm]
 exact(Nat.le_log2 (by lia)).mpr (aBJ d h)
theorem YL(s:Nat):yM s<2 ^ 600:=by
 unfold yM
 split
 ·exact Nat.two_pow_pos _
 ·have h1:s % 8388608+8388608<2 ^ 24:=by
   rw[show (2:Nat) ^ 24=16777216 from rfl];lia
  have h2:2 ^ (s / 8388608 % 256+150)≤2 ^ 406:=Nat.pow_le_pow_right (by decide) (by lia)
  calc (s % 8388608+8388608)*2 ^ (s / 8388608 % 256+150)≤2 ^ 24*2 ^ 406:=Nat.mul_le_mul (Nat.le_of_lt h1) h2
   _=2 ^ 430:=by rw[←Nat.pow_add]
   _<2 ^ 600:=Nat.pow_lt_pow_right (by decide) (by decide)
theorem Y1(a b:Nat):DF a b<2 ^ 600:=by
 unfold DF
 split
 ·exact Nat.two_pow_pos _
 ·have h1:a % 128+128≤2 ^ 8:=by lia
  have h2:b % 128+128≤2 ^ 8:=by lia
  have h3:2 ^ (a / 128 % 256+b / 128 % 256+32)≤2 ^ 542:=Nat.pow_le_pow_right (by decide) (by lia)
  calc (a % 128+128)*(b % 128+128)*2 ^ (a / 128 % 256+b / 128 % 256+32)≤2 ^ 8*2 ^ 8*2 ^ 542:=Nat.mul_le_mul (Nat.mul_le_mul h1 h2) h3
   _=2 ^ 558:=by rw[←Nat.pow_add,←Nat.pow_add]
   _<2 ^ 600:=Nat.pow_lt_pow_right (by decide) (by decide)
theorem B8(c:Bool)(m:Nat):(signed c m).natAbs=m:=by
 unfold signed;cases c <;> simp
theorem W7{s a b:Nat}(ha:a<65536)(hb:b<65536):(exact s a b).natAbs.log2<700:=by
 by_cases h:(exact s a b).natAbs=0
 ·rw[h];decide
 ·refine(Nat.log2_lt h).mpr ?_;have e:=MQ (s:=s) ha hb;have h1:=B8 (neg s) (yM s);have h2:=B8 (minus a b) (DF a b);have h3:=YL s;have h4:=Y1 a b;have h5:(2:Nat) ^ 600*2≤2 ^ 700:=by
   rw[←Nat.pow_succ];exact Nat.pow_le_pow_right (by decide) (by decide)
  generalize (2:Nat) ^ 600=B at *;generalize (2:Nat) ^ 700=C at *;generalize signed (neg s) (yM s)=x at *;generalize signed (minus a b) (DF a b)=y at *;lia
theorem CZ{x:Nat}(h:x<4294967296):quiet x<4294967296:=by
 unfold quiet;rw[show (2:Nat) ^ 22=4194304 from rfl]
 split <;> lia
theorem JX{c:Bool}{m:Nat}(h:m<2147483648):bits c m<4294967296:=by
 unfold bits;rw[show (2:Nat) ^ 31=2147483648 from rfl]
 split <;> lia
theorem iF{s a b:Nat}(hs:s<4294967296)(ha:a<65536)(hb:b<65536):step s a b<4294967296:=by
 unfold step
 split
 ·exact CZ (j5 a)
 ·split
  ·exact CZ (j5 b)
  ·split
   ·exact CZ hs
   ·split
    ·decide
    ·split
     ·exact JX (by decide)
     ·split
      ·exact hs
      ·split
       ·exact JX (by decide)
       ·rename_i h;have h32:=HH (s:=s) ha hb h;unfold made;apply JX;rcases EK (n:=(exact s a b).natAbs) (by lia) with ⟨c1,_⟩ | ⟨c1,c2,_⟩ | ⟨c1,c2,_,c4,c5⟩
        ·rw[if_pos c1];decide
        ·rw[if_neg (by lia),if_pos c1];decide
        ·rw[if_neg c1,if_neg c2];lia
def KO(k:Nat)(a b:Nat→Nat)(p:Nat):Two:=⟨a (2*p),if 2*p+1<k then a (2*p+1) else 0,b (2*p),if 2*p+1<k then b (2*p+1) else 0⟩
def sumTo(s k:Nat)(a b:Nat→Nat)(i:Nat):Nat:=sum s ((List.range i).map (KO k a b))
theorem uN(s k:Nat)(a b:Nat→Nat)(i:Nat):sumTo s k a b (i+1)=pair (sumTo s k a b i) (KO k a b i):=by
 unfold sumTo sum;rw[List.range_succ,aFC,List.foldl_append];rfl
theorem IB(s k:Nat)(a b:Nat→Nat):sum s (twos k a b)=sumTo s k a b ((k+1) / 2):=rfl
theorem vO{s k:Nat}{a b:Nat→Nat}(hs:s<4294967296)(ha:∀ i,a i<65536)(hb:∀ i,b i<65536):∀ i,sumTo s k a b i<4294967296
 | 0=>hs
 | i+1=>by
  rw[uN];unfold pair KO;refine iF (iF (vO hs ha hb i) ?_ ?_) (ha _) (hb _)
  ·dsimp only
   split
   ·exact ha _
   ·decide
  ·dsimp only
   split
   ·exact hb _
   ·decide
theorem dB{l:List Nat}{B:Nat}(hB:0<B)(h:∀ x∈l,x<B)(i:Nat):l.getD i 0<B:=by
 rw[aFe]
 cases e:l[i]? with
 | none=>exact hB
 | some x=>exact h x (aFO e)
def wI(x:Nat):Int:=if neg x=true then -(x:Int) else (x:Int)
theorem LB{x y:Nat}:wI x<wI y↔rank x<rank y:=by
 unfold wI rank;rw[show (2:Int) ^ 31=2147483648 from rfl,gW,gW];by_cases h1:x / 2147483648 % 2=1
 ·by_cases h2:y / 2147483648 % 2=1
  ·rw[if_pos (aFc h1),if_pos (aFc h2),if_pos (aFc h1),if_pos (aFc h2)];lia
  ·rw[if_pos (aFc h1),if_neg (by simpa using h2),if_pos (aFc h1),if_neg (by simpa using h2)];lia
 ·by_cases h2:y / 2147483648 % 2=1
  ·rw[if_neg (by simpa using h1),if_pos (aFc h2),if_neg (by simpa using h1),if_pos (aFc h2)];lia
  ·rw[if_neg (by simpa using h1),if_neg (by simpa using h2),if_neg (by simpa using h1),if_neg (by simpa using h2)]
structure Best(row:List Nat)(i k:Nat):Prop where
 lt:k<i
 le:i≤row.length
 eq:greatest row=bestFrom i k (rank (row.getD k 0)) (row.drop i)
theorem Best.start{row:List Nat}(h:row≠[]):Best row 1 0:=by
 cases row with
 | nil=>exact absurd rfl h
 | cons x r=>exact⟨by decide,by simp,rfl⟩
theorem Best.turn{row:List Nat}{i k:Nat}(B:Best row i k)(hi:i<row.length):Best row (i+1) (if wI (row.getD k 0)<wI (row.getD i 0) then i else k):=by
 obtain⟨h1,h2,h3⟩:=B;have hd:row.drop i=row.getD i 0::row.drop (i+1):=by
  rw[List.drop_eq_getElem_cons hi,aFe,aFv hi];rfl
 rw[hd] at h3;by_cases c:wI (row.getD k 0)<wI (row.getD i 0)
 ·rw[if_pos c];refine⟨by lia,hi,?_⟩;rw[h3];unfold bestFrom;rw[if_pos (LB.mp c)];cases row.drop (i+1) <;> rfl
 ·rw[if_neg c];refine⟨by lia,hi,?_⟩;rw[h3];show (if rank (row.getD k 0)<rank (row.getD i 0) then _ else _)=_;rw[if_neg (fun z=>c (LB.mpr z))]
theorem Best.done{row:List Nat}{k:Nat}(B:Best row row.length k):greatest row=k:=by
 rw[B.eq,List.drop_length];rfl
theorem LI{k r c:Nat}(hr:r<k):rowAt k (place k r c)=r∧columnAt k (place k r c)=c:=by
 unfold rowAt columnAt place;have hR:r / 2<(k+1) / 2:=by lia
 generalize (k+1) / 2=R at *;have e1:((c / 16*R+r / 2)*16+c % 16)*2+r % 2=(c / 16*R+r / 2)*32+((c % 16)*2+r % 2):=by
  generalize c / 16*R+r / 2=X;lia
 have e2:(((c / 16*R+r / 2)*16+c % 16)*2+r % 2) / 32=c / 16*R+r / 2:=by
  rw[e1];generalize c / 16*R+r / 2=X;lia
 have e3:(((c / 16*R+r / 2)*16+c % 16)*2+r % 2) % 2=r % 2:=by
  generalize c / 16*R+r / 2=X;lia
 have e4:(((c / 16*R+r / 2)*16+c % 16)*2+r % 2) / 2 % 16=c % 16:=by
  generalize c / 16*R+r / 2=X;lia
 have e5:(c / 16*R+r / 2) % R=r / 2:=by
  rw[Nat.mul_comm,Nat.mul_add_mod,Nat.mod_eq_of_lt hR]
 have e6:(c / 16*R+r / 2) / R=c / 16:=by
  rw[Nat.mul_comm,Nat.mul_add_div (by lia),Nat.div_eq_of_lt hR,Nat.add_zero]
 rw[e2,e3,e4,e5,e6];lia
theorem VP{k p:Nat}(hk:0<k):place k (rowAt k p) (columnAt k p)=p:=by
 unfold rowAt columnAt place;have hR:0<(k+1) / 2:=by lia
 generalize (k+1) / 2=R at *;have e1:(p / 32 % R*2+p % 2) / 2=p / 32 % R:=by
  generalize p / 32 % R=X;lia
 have e2:(p / 32 % R*2+p % 2) % 2=p % 2:=by
  generalize p / 32 % R=X;lia
 have e3:(p / 32 / R*16+p / 2 % 16) / 16=p / 32 / R:=by
  generalize p / 32 / R=X;lia
 have e4:(p / 32 / R*16+p / 2 % 16) % 16=p / 2 % 16:=by
  generalize p / 32 / R=X;lia
 rw[e1,e2,e3,e4,Nat.mul_comm,Nat.mul_comm (p / 32 / R) R,Nat.div_add_mod];lia
theorem place_lt{k n r c:Nat}(hr:r<k)(hc:c<n):place k r c<woven k n:=by
 unfold place woven;have hR:r / 2<(k+1) / 2:=by lia
 generalize (k+1) / 2=R at *;have hB:c / 16+1≤(n+15) / 16:=by lia
 have h1:(c / 16+1)*R≤(n+15) / 16*R:=Nat.mul_le_mul_right _ hB;rw[Nat.add_mul,Nat.one_mul] at h1;generalize c / 16*R=X at *;generalize (n+15) / 16*R=Y at *;lia
theorem oG{k n:Nat}(hk:k≤64)(hn:n≤64):woven k n≤4096:=by
 unfold woven;have h1:(n+15) / 16≤4:=by lia
 have h2:(k+1) / 2≤32:=by lia
 have h3:=Nat.mul_le_mul h1 h2;lia
theorem dO(l:List Nat)(i:Nat):l.toArray.getD i 0=l.getD i 0:=by
 simp [Array.getD,aFe]
 split
 ·rename_i h;rw[aFv h];rfl
 ·rename_i h;rw[List.getElem?_eq_none (by lia)];rfl
structure xS(k n:Nat)(l:List Nat)(i:Nat)(out:List Nat):Prop where
 len:out.length=woven k n
 at_:∀ p,p<woven k n→out.getD p 0=if rowAt k p<k∧columnAt k p<n∧rowAt k p*n+columnAt k p<i then l.getD (rowAt k p*n+columnAt k p) 0 else 0
theorem EC(m p:Nat):(List.replicate m 0).getD p 0=0:=by
 rw[aFe,List.getElem?_replicate]
 split <;> rfl
theorem xS.start(k n:Nat)(l:List Nat):xS k n l 0 (List.replicate (woven k n) 0):=by
 refine⟨aFL ..,fun p hp=>?_⟩;rw[if_neg (by lia),EC]
theorem EB{l:List Nat}{i:Nat}{v:Nat}(p:Nat)(hi:i<l.length):(l.set i v).getD p 0=if i=p then v else l.getD p 0:=by
 rw[aFe,List.getElem?_set,aFe];by_cases e:i=p
 ·subst e;rw[if_pos rfl,if_pos hi,if_pos rfl];rfl
 ·rw[if_neg e,if_neg e]
theorem xS.turn{k n i:Nat}{l out:List Nat}(W:xS k n l i out)(hi:i<k*n):xS k n l (i+1) (out.set (place k (i / n) (i % n)) (l.getD i 0)):=by
 have hn:0<n:=Nat.pos_of_ne_zero fun z=>by
  subst z;simp at hi
 have hr:i / n<k:=(aFT hn).mpr hi;have hc:i % n<n:=aFN _ hn;have hpl:=place_lt hr hc;refine⟨by rw[List.length_set];exact W.len,fun p hp=>?_⟩;rw[EB p (by rw[W.len];exact hpl),W.at_ p hp];have hk:0<k:=Nat.lt_of_le_of_lt (aFx _) hr;by_cases e:place k (i / n) (i % n)=p
 ·rw[if_pos e];obtain⟨e1,e2⟩:=LI (c:=i % n) hr;rw[e] at e1 e2;rw[e1,e2];have e3:i / n*n+i % n=i:=by
   rw[Nat.mul_comm];exact Nat.div_add_mod i n
  rw[e3,if_pos ⟨hr,hc,Nat.lt_succ_self i⟩]
 ·rw[if_neg e];by_cases c:rowAt k p<k∧columnAt k p<n∧rowAt k p*n+columnAt k p<i
  ·rw[if_pos c,if_pos ⟨c.1,c.2.1,by lia⟩]
  ·rw[if_neg c,if_neg];rintro⟨c1,c2,c3⟩;apply c;refine⟨c1,c2,?_⟩;have ne:rowAt k p*n+columnAt k p≠i:=fun z=>by
    apply e;have h1:i / n=rowAt k p:=by
     rw[←z,Nat.mul_comm,Nat.mul_add_div hn,Nat.div_eq_of_lt c2,Nat.add_zero]
    have h2:i % n=columnAt k p:=by
     rw[←z,Nat.mul_comm,Nat.mul_add_mod,Nat.mod_eq_of_lt c2]
    rw[h1,h2,VP hk]
   lia
theorem xJ{l m:List Nat}(hl:l.length=m.length)(h:∀ p,p<l.length→l.getD p 0=m.getD p 0):l=m:=by
 apply List.ext_getElem hl;intro p h1 h2;have q:=h p h1;rw[aFe,aFe,aFv h1,aFv h2] at q;exact q
theorem rV(f:Nat→Nat){m p:Nat}(h:p<m):((List.range m).map f).getD p 0=f p:=by
 rw[aFe,aFH,List.getElem?_range h];rfl
theorem xS.done{k n:Nat}{l out:List Nat}(W:xS k n l (k*n) out):out=weave (fun i j=>l.toArray.getD (i*n+j) 0) k n:=by
 refine xJ ?_ fun p hp=>?_
 ·rw[W.len];unfold weave;rw[aFd,aFy]
 ·rw[W.len] at hp;rw[W.at_ p hp];unfold weave;rw[rV _ hp];by_cases c:rowAt k p<k∧columnAt k p<n
  ·have hlt:rowAt k p*n+columnAt k p<k*n:=
    calc rowAt k p*n+columnAt k p<rowAt k p*n+n:=by lia
     _=(rowAt k p+1)*n:=by rw[Nat.add_mul,Nat.one_mul]
     _≤k*n:=Nat.mul_le_mul_right _ c.1
   rw[if_pos c];dsimp only;rw[dO,if_pos ⟨c.1,c.2,hlt⟩]
  ·rw[if_neg c,if_neg (fun z=>c ⟨z.1,z.2.1⟩)]
theorem uK{k:Nat}{f f' g g':Nat→Nat}(hf:∀ i,i<k→f i=f' i)(hg:∀ i,i<k→g i=g' i):twos k f g=twos k f' g':=by
 unfold twos;refine aFE fun p hp=>?_;have h:2*p<k:=by
  have:=List.mem_range.mp hp;lia
 rw[hf _ h,hg _ h];by_cases h2:2*p+1<k
 ·rw[if_pos h2,if_pos h2,if_pos h2,if_pos h2,hf _ h2,hg _ h2]
 ·rw[if_neg h2,if_neg h2,if_neg h2,if_neg h2]
theorem rW{l:List Nat}{o k i:Nat}(h:i<k):((l.drop o).take k).getD i 0=l.getD (o+i) 0:=by
 rw[aFe,aFe,List.getElem?_take,if_pos h,List.getElem?_drop]
theorem wY{l:List Nat}{o k x:Nat}(h:x∈(l.drop o).take k):x∈l:=List.mem_of_mem_drop (List.mem_of_mem_take h)
theorem GM{i j n:Nat}(h:j<n):(i*n+j) / n=i∧(i*n+j) % n=j:=by
 have hn:0<n:=by lia
 rw[Nat.mul_comm,Nat.mul_add_div hn,Nat.mul_add_mod,Nat.div_eq_of_lt h,Nat.mod_eq_of_lt h];exact⟨Nat.add_zero _,rfl⟩
theorem SH(a:List Int)(r:List (List Int)):PyFlat.told (a::r)=(a.length:Int)::a++PyFlat.told r:=by
 unfold PyFlat.told;rw[List.flatMap_cons]
theorem HL{f:Nat}{cs:List (List (List Int))}(h:PyFlat.calls PyWrbrnr.shape f []=some cs):cs=[]:=by
 unfold PyFlat.calls at h;cases f <;> exact(aFa h).symm
theorem EJ{f:Nat}{p:Int}{r:List Int}{cs:List (List (List Int))}(h:PyFlat.calls PyWrbrnr.shape f (p::r)=some cs):
  ∃ f' c t cs',PyFlat.call PyWrbrnr.shape (p::r)=some (c,t)∧PyFlat.calls PyWrbrnr.shape f' t=some cs'∧cs=c::cs':=by
 cases f with
 | zero=>
  unfold PyFlat.calls at h;cases h
 | succ f=>
  unfold PyFlat.calls at h
  cases e:PyFlat.call PyWrbrnr.shape (p::r) with
  | none=>
   rw[e] at h;cases h
  | some q=>
   obtain⟨c,t⟩:=q;rw[e] at h;dsimp only at h
   cases e2:PyFlat.calls PyWrbrnr.shape f t with
   | none=>
    rw[e2] at h;cases h
   | some cs'=>
    rw[e2] at h;exact⟨f,c,t,cs',rfl,e2,(aFa h).symm⟩
theorem fV{p:Int}{r:List Int}{c:List (List Int)}{t:List Int}(h:PyFlat.call PyWrbrnr.shape (p::r)=some (c,t)):
  ∃ n k xs,PyWrbrnr.shape p=some (n,k)∧n≤r.length∧PyFlat.rows k (r.drop n)=some (xs,t)∧c=(p::r.take n)::xs:=by
 unfold PyFlat.call at h;dsimp only at h
 cases e:PyWrbrnr.shape p with
 | none=>
  rw[e] at h;cases h
 | some q=>
  obtain⟨n,k⟩:=q;rw[e] at h;dsimp only at h;by_cases hn:r.length<n
  ·rw[if_pos hn] at h;cases h
  ·rw[if_neg hn] at h
   cases e2:PyFlat.rows k (r.drop n) with
   | none=>
    rw[e2] at h;cases h
   | some q=>
    obtain⟨xs,t'⟩:=q;rw[e2] at h;have h':=aFa h;exact⟨n,k,xs,rfl,by lia,by rw[e2,(Prod.mk.inj h').2],(Prod.mk.inj h').1.symm⟩
theorem sQ{r:List Int}{xs:List (List Int)}{t:List Int}(h:PyFlat.rows 0 r=some (xs,t)):xs=[]∧t=r:=by
 unfold PyFlat.rows at h;have h':=aFa h;exact⟨(Prod.mk.inj h').1.symm,(Prod.mk.inj h').2.symm⟩
theorem sR{k:Nat}{r:List Int}{xs:List (List Int)}{t:List Int}(h:PyFlat.rows (k+1) r=some (xs,t)):∃ x s ys,PyFlat.row r=some (x,s)∧PyFlat.rows k s=some (ys,t)∧xs=x::ys:=by
 unfold PyFlat.rows at h
 cases e:PyFlat.row r with
 | none=>
  rw[e] at h;cases h
 | some q=>
  obtain⟨x,s⟩:=q;rw[e] at h;dsimp only at h
  cases e2:PyFlat.rows k s with
  | none=>
   rw[e2] at h;cases h
  | some q=>
   obtain⟨ys,t'⟩:=q;rw[e2] at h;have h':=aFa h;exact⟨x,s,ys,rfl,by rw[e2,(Prod.mk.inj h').2],(Prod.mk.inj h').1.symm⟩
theorem GN{r x s:List Int}(h:PyFlat.row r=some (x,s)):∃ (n:Nat) (r':List Int),r=(n:Int)::r'∧n≤r'.length∧x=r'.take n∧s=r'.drop n:=by
 cases r with
 | nil=>cases h
 | cons n r'=>
  unfold PyFlat.row at h;dsimp only at h;by_cases c:0≤n∧n.toNat≤r'.length
  ·rw[if_pos c] at h;have h':=aFa h;exact⟨n.toNat,r',by rw[Int.toNat_of_nonneg c.1],c.2,(Prod.mk.inj h').1.symm,(Prod.mk.inj h').2.symm⟩
  ·rw[if_neg c] at h;cases h
theorem zS{p:Int}{q:Nat×Nat}(h:PyWrbrnr.shape p=some q):0≤p∧p≤17:=by
 unfold PyWrbrnr.shape at h;refine aFA fun z=>?_;rw[if_neg (by lia),if_neg (by lia),if_neg (by lia),if_neg (by lia),if_neg (by lia),if_neg (by lia),if_neg (by lia),if_neg (by lia),if_neg (by lia),if_neg (by lia),if_neg (by lia),if_neg (by lia),if_neg (by lia),if_neg (by lia),if_neg (by lia),if_neg (by lia),if_neg (by lia),if_neg (by lia)] at h;cases h
theorem JT{p:Int}{r:List Int}{c:List (List Int)}{t:List Int}(hs:PyWrbrnr.shape p=some (3,0))(h:PyFlat.call PyWrbrnr.shape (p::r)=some (c,t)):∃ x y z,r=x::y::z::t∧c=[[p,x,y,z]]:=by
 (refine aQ (fV h) fun n k xs e hn hr bO=>?_;subst bO);rw[hs] at e;obtain⟨rfl,rfl⟩:=Prod.mk.inj (aFa e);obtain⟨rfl,ht⟩:=sQ hr
 match r,hn with
 | x::y::z::r',_=>exact⟨x,y,z,by rw[ht];rfl,rfl⟩
theorem BL{p:Int}{r:List Int}{c:List (List Int)}{t:List Int}(hs:PyWrbrnr.shape p=some (1,0))(h:PyFlat.call PyWrbrnr.shape (p::r)=some (c,t)):∃ x,r=x::t∧c=[[p,x]]:=by
 (refine aQ (fV h) fun n k xs e hn hr bO=>?_;subst bO);rw[hs] at e;obtain⟨rfl,rfl⟩:=Prod.mk.inj (aFa e);obtain⟨rfl,ht⟩:=sQ hr
 match r,hn with
 | x::r',_=>exact⟨x,by rw[ht];rfl,rfl⟩
theorem wH{r:List Int}{xs:List (List Int)}{t:List Int}(h:PyFlat.rows 1 r=some (xs,t)):∃ a,PyFlat.row r=some (a,t)∧xs=[a]:=by
 (refine aJ (sR h) fun x s ys e h2 bO=>?_;subst bO);obtain⟨rfl,rfl⟩:=sQ h2;exact⟨x,e,rfl⟩
theorem K8{r:List Int}{xs:List (List Int)}{t:List Int}(h:PyFlat.rows 2 r=some (xs,t)):∃ a b s,PyFlat.row r=some (a,s)∧PyFlat.row s=some (b,t)∧xs=[a,b]:=by
 (refine aJ (sR h) fun x s ys e h2 bO=>?_;subst bO);(refine aA (wH h2) fun b e2 cA=>?_;subst cA);exact⟨x,b,s,e,e2,rfl⟩
theorem OK{r:List Int}{xs:List (List Int)}{t:List Int}(h:PyFlat.rows 3 r=some (xs,t)):∃ a b c s s',PyFlat.row r=some (a,s)∧PyFlat.row s=some (b,s')∧PyFlat.row s'=some (c,t)∧xs=[a,b,c]:=by
 (refine aJ (sR h) fun x s ys e h2 bO=>?_;subst bO);(refine aJ (K8 h2) fun b c s' e2 e3 cA=>?_;subst cA);exact⟨x,b,c,s,s',e,e2,e3,rfl⟩
theorem lL{p:Int}{r:List Int}{c:List (List Int)}{t:List Int}(hs:PyWrbrnr.shape p=some (0,1))(h:PyFlat.call PyWrbrnr.shape (p::r)=some (c,t)):∃ a,PyFlat.row r=some (a,t)∧c=[[p],a]:=by
 (refine aQ (fV h) fun n k xs e hn hr bO=>?_;subst bO);rw[hs] at e;obtain⟨rfl,rfl⟩:=Prod.mk.inj (aFa e);(refine aA (wH hr) fun a ha cA=>?_;subst cA);exact⟨a,ha,rfl⟩
theorem kJ{p:Int}{r:List Int}{c:List (List Int)}{t:List Int}(hs:PyWrbrnr.shape p=some (1,1))(h:PyFlat.call PyWrbrnr.shape (p::r)=some (c,t)):∃ x s a,r=x::s∧PyFlat.row s=some (a,t)∧c=[[p,x],a]:=by
 (refine aQ (fV h) fun n k xs e hn hr bO=>?_;subst bO);rw[hs] at e;obtain⟨rfl,rfl⟩:=Prod.mk.inj (aFa e);(refine aA (wH hr) fun a ha cA=>?_;subst cA)
 match r,hn with
 | x::r',_=>exact⟨x,r',a,rfl,ha,rfl⟩
theorem kI{p:Int}{r:List Int}{c:List (List Int)}{t:List Int}(hs:PyWrbrnr.shape p=some (2,1))(h:PyFlat.call PyWrbrnr.shape (p::r)=some (c,t)):∃ x y s a,r=x::y::s∧PyFlat.row s=some (a,t)∧c=[[p,x,y],a]:=by
 (refine aQ (fV h) fun n k xs e hn hr bO=>?_;subst bO);rw[hs] at e;obtain⟨rfl,rfl⟩:=Prod.mk.inj (aFa e);(refine aA (wH hr) fun a ha cA=>?_;subst cA)
 match r,hn with
 | x::y::r',_=>exact⟨x,y,r',a,rfl,ha,rfl⟩
theorem xO{p:Int}{r:List Int}{c:List (List Int)}{t:List Int}(hs:PyWrbrnr.shape p=some (1,2))(h:PyFlat.call PyWrbrnr.shape (p::r)=some (c,t)):∃ x s a s' b,r=x::s∧PyFlat.row s=some (a,s')∧PyFlat.row s'=some (b,t)∧c=[[p,x],a,b]:=by
 (refine aQ (fV h) fun n k xs e hn hr bO=>?_;subst bO);rw[hs] at e;obtain⟨rfl,rfl⟩:=Prod.mk.inj (aFa e);(refine aJ (K8 hr) fun a b s' ha hb cA=>?_;subst cA)
 match r,hn with
 | x::r',_=>exact⟨x,r',a,s',b,rfl,ha,hb,rfl⟩
theorem JS{p:Int}{r:List Int}{c:List (List Int)}{t:List Int}(hs:PyWrbrnr.shape p=some (3,3))(h:PyFlat.call PyWrbrnr.shape (p::r)=some (c,t)):
  ∃ x y z s a s' b s'' d,r=x::y::z::s∧PyFlat.row s=some (a,s')∧PyFlat.row s'=some (b,s'')∧PyFlat.row s''=some (d,t)∧c=[[p,x,y,z],a,b,d]:=by
 (refine aQ (fV h) fun n k xs e hn hr bO=>?_;subst bO);rw[hs] at e;obtain⟨rfl,rfl⟩:=Prod.mk.inj (aFa e);(refine aE (OK hr) fun a b d cA=>?_;refine aN cA fun s' s'' ha hb hd dF=>?_;subst dF)
 match r,hn with
 | x::y::z::r',_=>exact⟨x,y,z,r',a,s',b,s'',d,rfl,ha,hb,hd,rfl⟩
theorem MX{l:List Int}(h:PyWrbrnr.answers_asked l=true):∃ cs,PyFlat.calls PyWrbrnr.shape l.length l=some cs∧cs.length≤48∧(∀ c∈cs,PyInside.call PyWrbrnr.bound c=true)∧(PyWrbrnr.answers l).length≤10000000:=by
 unfold PyWrbrnr.answers_asked at h
 cases e:PyFlat.calls PyWrbrnr.shape l.length l with
 | none=>
  rw[e] at h;cases h
 | some cs=>
  rw[e] at h;dsimp only at h;rw[aFg,aFg,aFg,aFg] at h;obtain⟨⟨⟨⟨h1,h2⟩,h3⟩,h4⟩,h5⟩:=h;exact⟨cs,rfl,aFf h2,fun c hc=>aFM.mp h3 c hc,aFf h5⟩
theorem UZ{p:Int}(h0:0≤p)(h1:p≤17):p=0∨p=1∨p=2∨p=3∨p=4∨p=5∨p=6∨p=7∨p=8∨p=9∨p=10∨p=11∨p=12∨p=13∨p=14∨p=15∨p=16∨p=17:=by
 obtain⟨n,rfl⟩:=Int.eq_ofNat_of_zero_le h0;exact(by decide +kernel:∀ n:Fin 18,(n.val:Int)=0∨(n.val:Int)=1∨(n.val:Int)=2∨(n.val:Int)=3∨(n.val:Int)=4∨(n.val:Int)=5∨(n.val:Int)=6∨(n.val:Int)=7∨(n.val:Int)=8∨(n.val:Int)=9∨(n.val:Int)=10∨(n.val:Int)=11∨(n.val:Int)=12∨(n.val:Int)=13∨(n.val:Int)=14∨(n.val:Int)=15∨(n.val:Int)=16∨(n.val:Int)=17) ⟨n,by lia⟩
theorem NR{p:Int}{r:List Int}{c:List (List Int)}{t:List Int}(h:PyFlat.call PyWrbrnr.shape (p::r)=some (c,t)):PyWrbrnr.whole c=c:=by
 refine aP (fV h) fun n k xs e _=>?_;have q:=zS e;clear e;rcases UZ q.1 q.2 with rfl | rfl | rfl | rfl | rfl | rfl | rfl | rfl | rfl | rfl | rfl | rfl | rfl | rfl | rfl | rfl | rfl | rfl
 ·(refine aP (JT (by decide) h) fun x y z _ bO=>?_;subst bO);rfl
 ·(refine aA (lL (by decide) h) fun a _ cA=>?_;subst cA);rfl
 ·(refine aA (lL (by decide) h) fun a _ dF=>?_;subst dF);rfl
 ·(refine aA (lL (by decide) h) fun a _ eX=>?_;subst eX);rfl
 ·(refine aE (xO (by decide) h) fun x s a hE=>?_;refine aN hE fun s' b _ _ _ p9=>?_;subst p9);rfl
 ·(refine aE (kI (by decide) h) fun x y s AS=>?_;refine aC AS fun a _ _ KJ=>?_;subst KJ);rfl
 ·(refine aE (kI (by decide) h) fun x y s NO=>?_;refine aC NO fun a _ _ zz9=>?_;subst zz9);rfl
 ·(refine aE (JS (by decide) h) fun m k n NP=>?_;refine aE NP fun r1 u r2 US=>?_;refine aS US fun v r3 z _ _ _ _ aAy=>?_;subst aAy);rfl
 ·(refine aJ (kJ (by decide) h) fun x s a _ _ aDx=>?_;subst aDx);rfl
 ·(refine aJ (kJ (by decide) h) fun x s a _ _ aDw=>?_;subst aDw);rfl
 ·(refine aE (kI (by decide) h) fun x y s aDv=>?_;refine aC aDv fun a _ _ aDu=>?_;subst aDu);rfl
 ·(refine aE (xO (by decide) h) fun x s a aDt=>?_;refine aN aDt fun s' b _ _ _ aDs=>?_;subst aDs);rfl
 ·(refine aJ (kJ (by decide) h) fun x s a _ _ aDr=>?_;subst aDr);rfl
 ·(refine aA (BL (by decide) h) fun x _ aDq=>?_;subst aDq);rfl
 ·(refine aA (BL (by decide) h) fun x _ aDp=>?_;subst aDp);rfl
 ·(refine aJ (kJ (by decide) h) fun x s a _ _ aDo=>?_;subst aDo);rfl
 ·(refine aJ (kJ (by decide) h) fun x s a _ _ aDn=>?_;subst aDn);rfl
 ·(refine aE (kI (by decide) h) fun x y s aDm=>?_;refine aC aDm fun a _ _ aDl=>?_;subst aDl);rfl
theorem MT{cs:List (List (List Int))}:∀ {f:Nat} {l:List Int},PyFlat.calls PyWrbrnr.shape f l=some cs→cs.map PyWrbrnr.whole=cs:=by
 induction cs with
 | nil=>intros;rfl
 | cons c r ih=>
  intro f l h
  cases l with
  | nil=>cases HL h
  | cons p l=>
   (refine aE (EJ h) fun f' c' t bO=>?_;refine aC bO fun cs' h1 h2 e=>?_);cases e;rw[List.map_cons,ih h2,NR h1]
theorem P8{l:List Int}{cs:List (List (List Int))}(h:PyFlat.calls PyWrbrnr.shape l.length l=some cs):PyWrbrnr.answers l=PyFlat.told (PyFlat.played BrainNeutral.step BrainNeutral.start cs):=by
 unfold PyWrbrnr.answers PyWrbrnr.calls;rw[h];dsimp only;rw[MT h]
theorem WG(b:Bytes)(i n:Nat):le b i n<256 ^ n:=by
 unfold le;generalize b.drop i=l
 induction n generalizing l with
 | zero=>simp
 | succ n ih=>
  cases l with
  | nil=>
   simp;exact Nat.pow_pos (by decide)
  | cons c r=>
   rw[List.take_succ_cons,List.foldr_cons];have h1:=ih r;have h2:=c.toNat_lt;rw[Nat.pow_succ];lia
theorem DU(w:Nat):∀ (n:Nat) (r:Bytes),(manyFrom w n r).length=n
 | 0,_=>rfl
 | n+1,r=>by
  unfold manyFrom;rw[List.length_cons,DU w n]
theorem DT(w:Nat):∀ (n:Nat) (r:Bytes),∀ x∈manyFrom w n r,x<256 ^ w
 | 0,_,x,h=>by cases h
 | n+1,r,x,h=>by
  unfold manyFrom at h;rcases aEZ.mp h with rfl | h
  ·exact WG r 0 w
  ·exact DT w n _ x h
def xX(w:Nat):Layer→Prop
 | .dense m v c=>v.length=woven w m∧c.length=m∧(∀ x∈v,x<65536)∧∀ x∈c,x<4294967296
 | .scale s=>s<65536
 | .shift s=>s<65536
 | _=>True
theorem PK(b:Bytes)(w p:Nat):xX w (layerOf b w p):=by
 unfold layerOf
 split <;> try trivial
 ·exact⟨DU ..,DU ..,fun x h=>by have:=DT _ _ _ x h;lia,fun x h=>by have:=DT _ _ _ x h;lia⟩
 ·have:=WG b (p+1) 2;show le b (p+1) 2<65536;lia
 ·have:=WG b (p+1) 2;show le b (p+1) 2<65536;lia
def D7:Layer→Bool
 | .hook _ _=>true
 | _=>false
inductive Chain(H:House)(s:Nat):Spot→List Told→Prop
 | last {z:Spot} {t:Told}:t.before=z→t.layer= .out→z.loops=[]→z.aside=[]→t.work=0→t.need=0→Chain H s z [t]
 | cons {z:Spot} {t:Told} {r:List Told}:t.before=z→t.layer≠.out→z.tooWide t.layer=false→z.without t.layer=false→z.astray t.layer=false→xX z.w t.layer →
   (D7 t.layer=false→t.work=0∧t.need=0)→(∀ h m,t.layer= .hook h m→∃ M,meant H s z.w h m=some M∧t.work=M.work∧t.need=M.need)→Chain H s (z.next t.layer) r→Chain H s z (t::r)
theorem D1{b:Bytes}{w p:Nat}:layerOf b w p= .out↔kindAt b p=0:=by
 unfold layerOf
 split <;> simp_all
theorem gH{H:House}{s:Nat}{b:Bytes}{z:Spot}{p:Nat}{t:Told}(h:toldAt H s b z p=some t):
  t.at_=p∧t.kind=kindAt b p∧t.before=z∧t.layer=layerOf b z.w p∧(D7 t.layer=false→t.work=0∧t.need=0)∧∀ h m,t.layer= .hook h m→∃ M,meant H s z.w h m=some M∧t.work=M.work∧t.need=M.need:=by
 unfold toldAt at h
 cases e:layerOf b z.w p with
 | hook i m=>
  rw[e] at h;dsimp only at h
  cases e2:meant H s z.w i m with
  | none=>
   rw[e2] at h;cases h
  | some M=>
   rw[e2] at h;have h':=aFa h;subst h';refine⟨rfl,rfl,rfl,rfl,(fun q=>nomatch q),fun h m q=>?_⟩;cases q;exact⟨M,e2,rfl,rfl⟩
 | _=>
  rw[e] at h;have h':=aFa h;subst h';exact⟨rfl,rfl,rfl,rfl,fun _=>⟨rfl,rfl⟩,fun h m q=>by cases q⟩
theorem jP{H:House}{s:Nat}{b:Bytes}{z:Spot}{p done:Nat}(h:wrongAt H s b z p done=none):
  p<b.length∧kindAt b p≤15∧p+1+behind b z.w p≤b.length∧z.tooWide (layerOf b z.w p)=false∧z.without (layerOf b z.w p)=false∧z.astray (layerOf b z.w p)=false∧(kindAt b p=0→p+1=b.length) ∧
  ∃ t,toldAt H s b z p=some t∧done+t.cost≤WORK:=by
 unfold wrongAt at h
 split at h
 ·cases h
 ·rename_i h1
  split at h
  ·cases h
  ·rename_i h2;dsimp only at h
   split at h
   ·cases h
   ·rename_i h3
    split at h
    ·cases h
    ·rename_i h4
     split at h
     ·cases h
     ·rename_i h5
      split at h
      ·cases h
      ·rename_i h6
       split at h
       ·cases h
       ·rename_i t ht
        split at h
        ·cases h
        ·rename_i h7;exact⟨by lia,by lia,by lia,by simpa using h3,by simpa using h4,by simpa using h5,fun q=>by lia,t,ht,by lia⟩
theorem MR{H:House}{s:Nat}{b:Bytes}:∀ (n:Nat) (z:Spot) (p done:Nat) (l:List Told),readFrom H s b n z p done= .ok l→Chain H s z l
 | 0,z,p,done,l,h=>by cases h
 | n+1,z,p,done,l,h=>by
  unfold readFrom at h
  cases e:wrongAt H s b z p done with
  | some x=>
   rw[e] at h;cases h
  | none=>
   (refine aK (jP e) fun _ _ _ w3 w4 bO=>?_;refine aF bO fun w5 w6 cA=>?_;refine aA cA fun t ht _=>?_);refine aK (gH ht) fun q1 q2 q3 q4 q5 q6=>?_;rw[e] at h;dsimp only at h;rw[ht] at h;dsimp only at h;by_cases k:kindAt b p=0
   ·rw[if_pos k] at h;cases h;have ho:=(D1 (w:=z.w)).mpr k;rw[ho] at q4 w5;have hh:=q5 (by rw[q4];rfl);refine .last q3 q4 ?_ ?_ hh.1 hh.2
    ·have:(!z.loops.isEmpty|| !z.aside.isEmpty)=false:=w5;simp at this;exact this.1
    ·have:(!z.loops.isEmpty|| !z.aside.isEmpty)=false:=w5;simp at this;exact this.2
   ·rw[if_neg k] at h
    cases e2:readFrom H s b n (z.next t.layer) (p+1+behind b z.w p) (done+t.cost) with
    | error x=>
     rw[e2] at h;cases h
    | ok l'=>
     rw[e2] at h;cases h;refine .cons q3 (fun q=>k (D1.mp (q4.symm.trans q))) ?_ ?_ ?_ ?_ q5 q6 (MR n _ _ _ l' e2)
     ·rw[q4];exact w3
     ·rw[q4];exact w4
     ·rw[q4];exact w5
     ·rw[q4];exact PK b z.w p
theorem iX{H:House}{s:Nat}{b:Bytes}{N:Net}(h:judge H s b= .ok N):Chain H s ⟨N.width,[],[]⟩ N.layers∧1≤N.width∧N.width≤64:=by
 unfold judge at h
 split at h
 ·cases h
 ·split at h
  ·cases h
  ·rename_i h1 h2
   cases e:readFrom H s b (b.length+1) ⟨le b 4 2,[],[]⟩ 6 0 with
   | error x=>
    rw[e] at h;cases h
   | ok l=>
    rw[e] at h;cases h;refine⟨MR _ _ _ _ _ e,?_⟩;have h2':sizeOk (le b 4 2)=true:=by simpa using h2
    unfold sizeOk MOST at h2';rw[aFg,decide_eq_true_iff,decide_eq_true_iff] at h2';exact h2'
def sG(z:Spot):Prop:=1≤z.w∧z.w≤64∧∀ a∈z.aside,1≤a∧a≤64
structure R7(z:Spot)(s:At):Prop where
 ok:sG z
 w:s.row.length=z.w
 a:s.aside.map List.length=z.aside
 v:∀ x∈s.row,x<4294967296
 va:∀ y∈s.aside,∀ x∈y,x<4294967296
def isPlain:Layer→Bool
 | .out=>false
 | .hook _ _=>false
 | .loop _=>false
 | .back=>false
 | _=>true
theorem eQ{m:Nat}(h:(!sizeOk m)=false):1≤m∧m≤64:=by
 unfold sizeOk MOST at h;simp at h;lia
theorem wW{z:Spot}{c:Layer}(h:sG z)(h1:z.tooWide c=false)(h2:z.without c=false):sG (z.next c):=by
 refine aF h fun a b d=>?_
 cases c with
 | dense m w c=>exact⟨(eQ h1).1,(eQ h1).2,d⟩
 | hook i m=>exact⟨(eQ h1).1,(eQ h1).2,d⟩
 | slice f m=>
  have h1':(!sizeOk m||decide (z.w<f+m))=false:=h1;rw[Bool.or_eq_false_iff] at h1';exact⟨(eQ h1'.1).1,(eQ h1'.1).2,d⟩
 | greatest=>exact⟨by show 1≤1;decide,by show 1≤64;decide,d⟩
 | aside=>
  refine⟨a,b,fun x hx=>?_⟩;rcases aEZ.mp hx with rfl | hx
  ·exact⟨a,b⟩
  ·exact d x hx
 | add=>exact⟨a,b,fun x hx=>d x (List.mem_of_mem_drop hx)⟩
 | times=>exact⟨a,b,fun x hx=>d x (List.mem_of_mem_drop hx)⟩
 | swap=>
  have h2':z.aside.isEmpty=false:=h2
  cases e:z.aside with
  | nil=>
   rw[e] at h2';cases h2'
  | cons y l=>
   rw[e] at d;refine⟨?_,?_,fun x hx=>?_⟩
   ·show 1≤z.aside.headD 0;rw[e];exact(d y (aFh ..)).1
   ·show z.aside.headD 0≤64;rw[e];exact(d y (aFh ..)).2
   ·have hx':x∈z.w::z.aside.drop 1:=hx;rw[e] at hx';rcases aEZ.mp hx' with rfl | hx'
    ·exact⟨a,b⟩
    ·exact d x (aFk _ hx')
 | join=>
  have h2':z.aside.isEmpty=false:=h2;have h1':(match z.aside with | []=>false | a::_=>decide (MOST<a+z.w))=false:=h1
  cases e:z.aside with
  | nil=>
   rw[e] at h2';cases h2'
  | cons y l=>
   rw[e] at d h1';have h3:=of_decide_eq_false h1';unfold MOST at h3;refine⟨?_,?_,fun x hx=>?_⟩
   ·show 1≤z.aside.headD 0+z.w;lia
   ·show z.aside.headD 0+z.w≤64;rw[e];show y+z.w≤64;lia
   ·have hx':x∈z.aside.drop 1:=hx;rw[e] at hx';exact d x (aFk _ hx')
 | _=>exact⟨a,b,d⟩
theorem EI{x:Nat}(h:x<4294967296):clamped x<4294967296:=by
 unfold clamped
 split
 ·decide
 ·exact h
theorem rE(k n:Nat)(a:List Nat)(w:Nat→Nat)(c:List Nat):(rowProduct k n a w c).length=n:=by
 unfold rowProduct;dsimp only;rw[aFd,aFy]
theorem E7{k n:Nat}{a:List Nat}{w:Nat→Nat}{c:List Nat}(ha:∀ x∈a,x<65536)(hw:∀ p,w p<65536)(hc:∀ x∈c,x<4294967296):∀ x∈rowProduct k n a w c,x<4294967296:=by
 intro x hx;unfold rowProduct at hx;dsimp only at hx;(refine aA (aFz.mp hx) fun j _ bO=>?_;subst bO);rw[IB];refine vO ?_ (fun i=>?_) (fun i=>hw _) _
 ·rw[dO];exact dB (by decide) hc _
 ·rw[dO];exact dB (by decide) ha _
theorem r9:∀ (l:List Nat) (i k:Nat) (m:Int),k<i→bestFrom i k m l<i+l.length
 | [],i,k,m,h=>by
  unfold bestFrom;simpa using h
 | x::l,i,k,m,h=>by
  unfold bestFrom;rw[List.length_cons]
  split
  ·have:=r9 l (i+1) i (rank x) (by lia);lia
  ·have:=r9 l (i+1) k m (by lia);lia
theorem AI{l:List Nat}(h:l≠[]):greatest l<l.length:=by
 cases l with
 | nil=>exact absurd rfl h
 | cons x r=>
  have:=r9 r 1 0 (rank x) (by decide);show bestFrom 1 0 (rank x) r<r.length+1;lia
theorem qG{n:Nat}(h:n<64):wholeSingle n<4294967296:=by
 unfold wholeSingle
 split
 ·decide
 ·rename_i h0;have h1:n.log2<6:=(Nat.log2_lt h0).mpr (by lia);have h2:n*2 ^ 23 / 2 ^ n.log2 % 2 ^ 23<2 ^ 23:=aFN _ (by decide);rw[show (2:Nat) ^ 23=8388608 from rfl] at *;lia
theorem xQ(f:Nat→Nat→Nat)(x y:List Nat):(both f x y).length=x.length:=by
 unfold both;rw[aFd,aFy]
theorem BN{f:Nat→Nat→Nat}{x y:List Nat}(h:∀ i,f (x.getD i 0) (y.getD i 0)<4294967296):∀ z∈both f x y,z<4294967296:=by
 intro z hz;unfold both at hz;(refine aA (aFz.mp hz) fun i _ bO=>?_;subst bO);exact h i
theorem BI{z:Spot}{s:At}(F:R7 z s)(h:(z.aside.head? !=some z.w)=false):∃ y l,s.aside=y::l∧y.length=z.w∧z.aside=z.w::l.map List.length:=by
 have h':z.aside.head?=some z.w:=by simpa using h
 cases e:s.aside with
 | nil=>
  have:=F.a;rw[e] at this;rw[←this] at h';cases h'
 | cons y l=>
  have:=F.a;rw[e,List.map_cons] at this;rw[←this] at h' ⊢;have h2:y.length=z.w:=aFa h';exact⟨y,l,rfl,h2,by rw[h2]⟩
theorem QQ{z:Spot}{s:At}(F:R7 z s)(h:z.aside.isEmpty=false):∃ y l,s.aside=y::l∧z.aside=y.length::l.map List.length:=by
 cases e:s.aside with
 | nil=>
  have:=F.a;rw[e] at this;rw[←this] at h;cases h
 | cons y l=>
  have:=F.a;rw[e,List.map_cons] at this;exact⟨y,l,rfl,this.symm⟩
theorem AO{z:Spot}{s:At}{c:Layer}(F:R7 z s)(hp:isPlain c=true)(h1:z.tooWide c=false)(h2:z.without c=false)(hl:xX z.w c):
  ∃ s',s.after c=some s'∧s'.pc=s.pc+1∧s'.loops=s.loops∧R7 (z.next c) s':=by
 have ok:=wW F.ok h1 h2
 cases c with
 | out=>cases hp
 | hook _ _=>cases hp
 | loop _=>cases hp
 | back=>cases hp
 | dense m w c=>
  refine⟨_,rfl,rfl,rfl,ok,?_,F.a,?_,F.va⟩
  ·show (rowProduct s.row.length m (s.row.map narrowed) (fun p=>w.toArray.getD p 0) c).length=m;exact rE ..
  ·show ∀ x∈rowProduct s.row.length m (s.row.map narrowed) (fun p=>w.toArray.getD p 0) c,x<4294967296;refine E7 (fun x hx=>?_) (fun p=>?_) hl.2.2.2
   ·(refine aA (aFz.mp hx) fun y hy bO=>?_;subst bO);exact dC (F.v y hy)
   ·rw[dO];exact dB (by decide) hl.2.2.1 _
 | clamp=>
  refine⟨_,rfl,rfl,rfl,ok,?_,F.a,?_,F.va⟩
  ·show (s.row.map clamped).length=_;rw[aFd];exact F.w
  ·intro x hx;(refine aA (aFz.mp (show x∈s.row.map clamped from hx)) fun y hy cA=>?_;subst cA);exact EI (F.v y hy)
 | narrow=>
  refine⟨_,rfl,rfl,rfl,ok,?_,F.a,?_,F.va⟩
  ·show (s.row.map fun x=>wide (narrowed x)).length=_;rw[aFd];exact F.w
  ·intro x hx;(refine aA (aFz.mp (show x∈s.row.map fun x=>wide (narrowed x) from hx)) fun y hy dF=>?_;subst dF);exact j5 _
 | aside=>
  refine⟨_,rfl,rfl,rfl,ok,F.w,?_,F.v,?_⟩
  ·show s.row.length::s.aside.map List.length=z.w::z.aside;rw[F.w,F.a]
  ·intro y hy;rcases aEZ.mp (show y∈s.row::s.aside from hy) with rfl | hy
   ·exact F.v
   ·exact F.va y hy
 | add=>
  refine aB (BI F h2) fun y l e hy ha=>?_;have va:=F.va;rw[e] at va;unfold At.after;rw[e];refine⟨_,rfl,rfl,rfl,ok,?_,?_,?_,fun u hu=>va u (aFk _ hu)⟩
  ·show (both (fun x v=>step x (narrowed v) ONE) s.row y).length=z.w;rw[xQ];exact F.w
  ·show l.map List.length=z.aside.drop 1;rw[ha];rfl
  ·show ∀ x∈both (fun x v=>step x (narrowed v) ONE) s.row y,x<4294967296;refine BN fun i=>iF (dB (by decide) F.v i) (dC (dB (by decide) (va y (aFh ..)) i)) (by decide)
 | times=>
  refine aB (BI F h2) fun y l e hy ha=>?_;have va:=F.va;rw[e] at va;unfold At.after;rw[e];refine⟨_,rfl,rfl,rfl,ok,?_,?_,?_,fun u hu=>va u (aFk _ hu)⟩
  ·show (both (fun x v=>step 0 (narrowed x) (narrowed v)) s.row y).length=z.w;rw[xQ];exact F.w
  ·show l.map List.length=z.aside.drop 1;rw[ha];rfl
  ·show ∀ x∈both (fun x v=>step 0 (narrowed x) (narrowed v)) s.row y,x<4294967296;refine BN fun i=>iF (by decide) (dC (dB (by decide) F.v i)) (dC (dB (by decide) (va y (aFh ..)) i))
 | scale k=>
  refine⟨_,rfl,rfl,rfl,ok,?_,F.a,?_,F.va⟩
  ·show (s.row.map fun x=>step 0 (narrowed x) k).length=_;rw[aFd];exact F.w
  ·intro x hx;(refine aA (aFz.mp (show x∈s.row.map fun x=>step 0 (narrowed x) k from hx)) fun y hy eX=>?_;subst eX);exact iF (by decide) (dC (F.v y hy)) hl
 | shift k=>
  refine⟨_,rfl,rfl,rfl,ok,?_,F.a,?_,F.va⟩
  ·show (s.row.map fun x=>step x k ONE).length=_;rw[aFd];exact F.w
  ·intro x hx;(refine aA (aFz.mp (show x∈s.row.map fun x=>step x k ONE from hx)) fun y hy hE=>?_;subst hE);exact iF (F.v y hy) hl (by decide)
 | slice f m=>
  have h1':(!sizeOk m||decide (z.w<f+m))=false:=h1;rw[Bool.or_eq_false_iff] at h1';have h3:=of_decide_eq_false h1'.2;refine⟨_,rfl,rfl,rfl,ok,?_,F.a,?_,F.va⟩
  ·show ((s.row.drop f).take m).length=m;rw[aFq,aFp,F.w];lia
  ·intro x hx;exact F.v x (wY (show x∈(s.row.drop f).take m from hx))
 | swap=>
  refine aH (QQ F h2) fun y l e ha=>?_;have va:=F.va;rw[e] at va;unfold At.after;rw[e];refine⟨_,rfl,rfl,rfl,ok,?_,?_,va y (aFh ..),fun u hu=>?_⟩
  ·show y.length=z.aside.headD 0;rw[ha];rfl
  ·show s.row.length::l.map List.length=z.w::z.aside.drop 1;rw[ha,F.w];rfl
  ·rcases aEZ.mp (show u∈s.row::l from hu) with rfl | hu
   ·exact F.v
   ·exact va u (aFk _ hu)
 | join=>
  refine aH (QQ F h2) fun y l e ha=>?_;have va:=F.va;rw[e] at va;unfold At.after;rw[e];refine⟨_,rfl,rfl,rfl,ok,?_,?_,fun x hx=>?_,fun u hu=>va u (aFk _ hu)⟩
  ·show (y++s.row).length=z.aside.headD 0+z.w;rw[ha,aFb,F.w];rfl
  ·show l.map List.length=z.aside.drop 1;rw[ha];rfl
  ·rcases List.mem_append.mp (show x∈y++s.row from hx) with hx | hx
   ·exact va y (aFh ..) x hx
   ·exact F.v x hx
 | greatest=>
  refine⟨_,rfl,rfl,rfl,ok,rfl,F.a,fun x hx=>?_,F.va⟩;have hx':x=wholeSingle (greatest s.row):=aFF.mp hx;rw[hx'];refine qG ?_;have hne:s.row≠[]:=fun q=>by
   have h0:=F.w;rw[q] at h0;have:=F.ok.1;simp at h0;lia
  have:=AI hne;have h0:=F.w;have h64:=F.ok.2.1;lia
inductive Runs(L:List Told):Nat→Nat→Nat→Prop
 | nil (i:Nat):Runs L i i 0
 | plain {i j n:Nat} {t:Told}:L[i]?=some t→isPlain t.layer=true→Runs L (i+1) j n→Runs L i j (1+n)
 | hook {i j n h m:Nat} {t:Told}:L[i]?=some t→t.layer= .hook h m→Runs L (i+1) j n→Runs L i j (1+t.work+n)
 | loop {i k j nb n r:Nat} {t u:Told}:L[i]?=some t→t.layer= .loop r→Runs L (i+1) k nb→L[k]?=some u→u.layer= .back→u.before.w=t.before.w→u.before.aside=t.before.aside→Runs L (k+1) j n→Runs L i j (1+r*(nb+1)+n)
inductive Tail(L:List Told):Nat→List (Nat×Nat×List Nat)→Nat→Prop
 | out {i j n:Nat} {t:Told}:Runs L i j n→L[j]?=some t→t.layer= .out→j+1=L.length→Tail L i [] (n+1)
 | back {i j n c:Nat} {t:Told} {e:Nat×Nat×List Nat} {es:List (Nat×Nat×List Nat)}:Runs L i j n→L[j]?=some t→t.layer= .back→t.before.w=e.2.1→t.before.aside=e.2.2→Tail L (j+1) es c→Tail L i (e::es) (e.1*(n+1)+c)
def L6:List (Nat×Nat×List Nat)→Nat
 | []=>1
 | e::_=>e.1
def costs(l:List Told):Nat:=l.foldr (fun t n=>t.cost+n) 0
theorem mO(t:Told)(l:List Told):costs (t::l)=t.cost+costs l:=rfl
theorem QK(N:Net):N.work=costs N.layers:=by
 have h:∀ (l:List Told) (a:Nat),l.foldl (fun (n:Nat) (t:Told)=>n+t.cost) a=a+costs l:=by
  intro l
  induction l with
  | nil=>intro a;rfl
  | cons t r ih=>
   intro a;rw[List.foldl_cons,ih,mO];lia
 unfold Net.work;rw[h];lia
theorem drop_cons{L r:List Told}{i:Nat}{t:Told}(h:L.drop i=t::r):L[i]?=some t∧L.drop (i+1)=r:=by
 have h1:(L.drop i)[0]?=some t:=by rw[h];rfl
 rw[List.getElem?_drop] at h1;refine⟨h1,?_⟩;rw[←List.drop_drop,h];rfl
theorem Tail.ahead{L:List Told}{i:Nat}{es:List (Nat×Nat×List Nat)}{c d:Nat}(T:Tail L (i+1) es c)(f:∀ j n,Runs L (i+1) j n→Runs L i j (d+n)):
  Tail L i es (L6 es*d+c):=by
 cases T with
 | out r h1 h2 h3=>
  have q:=Tail.out (f _ _ r) h1 h2 h3;rename_i j n t;rw[show (L6 []*d+(n+1))=(d+n)+1 from by show 1*d+(n+1)=_;lia];exact q
 | back r h1 h2 h3 h4 T'=>
  have q:=Tail.back (f _ _ r) h1 h2 h3 h4 T';rename_i j n c t e es;rw[show (L6 (e::es)*d+(e.1*(n+1)+c))=e.1*(d+n+1)+c from by show e.1*d+_=_;rw[Nat.mul_add,Nat.mul_add,Nat.mul_add];lia];exact q
theorem YE{H:House}{s:Nat}{L:List Told}:∀ {z:Spot} {l:List Told},Chain H s z l→∀ i,L.drop i=l→Tail L i z.loops (costs l):=by
 intro z l C
 induction C with
 | last hb ho hl ha hw hn=>
  intro i hd;rename_i z t;obtain⟨h1,h2⟩:=drop_cons hd;have hlen:i+1=L.length:=by
   have q:=congrArg List.length hd;rw[aFp] at q;simp at q;lia
  rw[hl];have e:costs [t]=0+1:=by
   rw[mO];show t.cost+0=_;unfold Told.cost Spot.often;rw[hb,hl,hw];rfl
  rw[e];exact .out (.nil i) h1 ho hlen
 | cons hb ho h1 h2 h3 hl hn hh C ih=>
  intro i hd;rename_i z t r;obtain⟨hi,hr⟩:=drop_cons hd;have T:=ih (i+1) hr;rw[mO];have aCG:z.often=L6 z.loops:=by
   unfold Spot.often;cases z.loops <;> rfl
  have hc:t.cost=L6 z.loops*(1+t.work):=by
   unfold Told.cost;rw[hb,aCG]
  cases e:t.layer with
  | out=>exact absurd e ho
  | hook hh' m=>
   rw[e] at T;rw[hc];exact Tail.ahead (es:=z.loops) T fun j n R=> .hook hi e R
  | back=>
   rw[e] at T h3
   cases el:z.loops with
   | nil=>
    have h3':z.astray .back=false:=h3;unfold Spot.astray at h3';rw[el] at h3';cases h3'
   | cons x es=>
    have h3':z.astray .back=false:=h3;unfold Spot.astray at h3';rw[el] at h3';have h4:=of_decide_eq_false h3';have h5:x.2=(z.w,z.aside):=aFA h4;have T':Tail L (i+1) es (costs r):=by
     have q:(z.next .back).loops=es:=by
      show z.loops.drop 1=es;rw[el];rfl
     rw[q] at T;exact T
    have w0:=(hn (by rw[e];rfl)).1;rw[hc,el,w0];exact Tail.back (e:=x) (.nil i) hi e (by rw[hb,h5]) (by rw[hb,h5]) T'
  | loop m=>
   rw[e] at T;have T':Tail L (i+1) ((z.often*m,z.w,z.aside)::z.loops) (costs r):=T;have w0:=(hn (by rw[e];rfl)).1;generalize hcr:costs r=cr at T'
   cases T' with
   | back R g1 g2 g3 g4 T2=>
    rename_i j n c u;have R':∀ j2 n2,Runs L (j+1) j2 n2→Runs L i j2 (1+m*(n+1)+n2):=fun j2 n2 R2=>
     .loop hi e R g1 g2 (by rw[g3,hb]) (by rw[g4,hb]) R2
    rw[hc,w0];show Tail L i z.loops (L6 z.loops*(1+0)+(z.often*m*(n+1)+c));rw[aCG];generalize z.loops=zl at *
    cases T2 with
    | out r2 k1 k2 k3=>
     rename_i j2 n2 t2;have q:=Tail.out (R' _ _ r2) k1 k2 k3;rw[show (L6 []*(1+0)+(L6 []*m*(n+1)+(n2+1)))=(1+m*(n+1)+n2)+1 from by show 1*(1+0)+(1*m*(n+1)+(n2+1))=_;rw[Nat.one_mul,Nat.one_mul];lia];exact q
    | back r2 k1 k2 k3 k4 T3=>
     rename_i j2 n2 c2 t2 e2 es2;have q:=Tail.back (R' _ _ r2) k1 k2 k3 k4 T3;rw[show (L6 (e2::es2)*(1+0)+(L6 (e2::es2)*m*(n+1)+(e2.1*(n2+1)+c2)))=e2.1*(1+m*(n+1)+n2+1)+c2 from by
      show e2.1*(1+0)+(e2.1*m*(n+1)+(e2.1*(n2+1)+c2))=_;rw[Nat.mul_assoc];generalize m*(n+1)=M;simp only[Nat.mul_add,Nat.mul_one,Nat.add_zero];lia]
     exact q
  | _=>
   rw[e] at T;have w0:=(hn (by rw[e];rfl)).1;rw[hc,w0];exact Tail.ahead (es:=z.loops) T fun j n R=> .plain hi (by rw[e];rfl) R
theorem VI{H:House}{s:Nat}{N:Net}(C:Chain H s ⟨N.width,[],[]⟩ N.layers):∃ j n t,Runs N.layers 0 j n∧N.layers[j]?=some t∧t.layer= .out∧j+1=N.layers.length∧n+1=N.work:=by
 have T:=YE (L:=N.layers) C 0 rfl;rw[QK];generalize costs N.layers=c at T
 cases T with
 | out R h1 h2 h3=>exact⟨_,_,_,R,h1,h2,h3,rfl⟩
theorem eV(H:House):∀ (m n:Nat) (st:Stand),turns H (m+n) st=turns H n (turns H m st)
 | 0,n,st=>by rw[Nat.zero_add];rfl
 | m+1,n,st=>by
  rw[show m+1+n=(m+n)+1 from by lia];show turns H (m+n) (turn H st)=turns H n (turns H m (turn H st));exact eV H m n (turn H st)
theorem jQ(H:House)(st:Stand):turns H 1 st=turn H st:=rfl
theorem rS{N:Net}{i:Nat}{t:Told}(h:N.layers[i]?=some t):N.layer i=some t.layer:=by
 unfold Net.layer;rw[h];rfl
theorem BW{H:House}{k:Nat}{N:Net}{s s':At}{l:List Frame}{t:Told}(h:N.layers[s.pc]?=some t)(hp:isPlain t.layer=true)(ha:s.after t.layer=some s'):turn H (.works ((k,N,s)::l))= .works ((k,N,s')::l):=by
 have e:=rS h;show (match N.layer s.pc with | none=>Stand.out [] | some .out=>_ | some (.hook h _)=>_ | some c=>_)=_;rw[e];cases c:t.layer <;> rw[c] at hp ha <;> first | (cases hp;done) | (dsimp only;rw[ha])
theorem F6{H:House}{k r:Nat}{N:Net}{s:At}{l:List Frame}{t:Told}(h:N.layers[s.pc]?=some t)(hl:t.layer= .loop r):turn H (.works ((k,N,s)::l))= .works ((k,N,{s with pc:=s.pc+1,loops:=(s.pc,r)::s.loops})::l):=by
 have e:=rS h;rw[hl] at e;show (match N.layer s.pc with | none=>Stand.out [] | some .out=>_ | some (.hook h _)=>_ | some c=>_)=_;rw[e];rfl
theorem yC{H:House}{k j n:Nat}{N:Net}{s:At}{l:List Frame}{t:Told}{es:List (Nat×Nat)}(h:N.layers[s.pc]?=some t)(hl:t.layer= .back)(he:s.loops=(j,n)::es):
  turn H (.works ((k,N,s)::l))= .works ((k,N,if n≤1 then {s with pc:=s.pc+1,loops:=es} else {s with pc:=j+1,loops:=(j,n-1)::es})::l):=by
 have e:=rS h;rw[hl] at e;show (match N.layer s.pc with | none=>Stand.out [] | some .out=>_ | some (.hook h _)=>_ | some c=>_)=_;rw[e];dsimp only;unfold At.after;rw[he];dsimp only;by_cases c:n≤1
 ·rw[if_pos c,if_pos c]
 ·rw[if_neg c,if_neg c]
theorem F7{H:House}{k i m:Nat}{N M:Net}{s:At}{l:List Frame}{t:Told}(h:N.layers[s.pc]?=some t)(hl:t.layer= .hook i m)(hk:kept H i=some M):turn H (.works ((k,N,s)::l))= .works ((i,M,started s.row)::(k,N,s)::l):=by
 have e:=rS h;rw[hl] at e;show (match N.layer s.pc with | none=>Stand.out [] | some .out=>_ | some (.hook h _)=>_ | some c=>_)=_;rw[e];dsimp only;rw[hk]
def given(x:List Nat):List Frame→Stand
 | []=> .out x
 | (j,M,t)::r=> .works ((j,M,t.to x)::r)
theorem KQ{H:House}{k:Nat}{N:Net}{s:At}{l:List Frame}{t:Told}(h:N.layers[s.pc]?=some t)(hl:t.layer= .out):turn H (.works ((k,N,s)::l))=given s.row l:=by
 have e:=rS h;rw[hl] at e;show (match N.layer s.pc with | none=>Stand.out [] | some .out=>_ | some (.hook h _)=>_ | some c=>_)=_;rw[e];cases l <;> rfl
structure Link(H:House)(s:Nat)(L:List Told)(i:Nat)(t:Told):Prop where
 wide:t.before.tooWide t.layer=false
 there:t.before.without t.layer=false
 stray:t.before.astray t.layer=false
 lay:xX t.before.w t.layer
 hook:∀ h m,t.layer= .hook h m→∃ M,meant H s t.before.w h m=some M∧t.work=M.work∧t.need=M.need
 next:∃ u,L[i+1]?=some u∧u.before=t.before.next t.layer
theorem jZ{H:House}{s:Nat}{z:Spot}{l:List Told}(C:Chain H s z l):∃ t r,l=t::r∧t.before=z:=by
 cases C with
 | last hb _ _ _ _ _=>exact⟨_,_,rfl,hb⟩
 | cons hb _ _ _ _ _ _ _ _=>exact⟨_,_,rfl,hb⟩
theorem JI{H:House}{s:Nat}{z:Spot}{l:List Told}(C:Chain H s z l):∀ (i:Nat) (t:Told),l[i]?=some t→t.layer≠.out→Link H s l i t:=by
 induction C with
 | last hb ho _ _ _ _=>
  intro i t h hn
  match i,h with
  | 0,h=>
   have e:=aFa h;subst e;exact absurd ho hn
  | i+1,h=>simp at h
 | cons hb ho h1 h2 h3 hl hn hh C ih=>
  rename_i z t r;intro i u h hu
  match i,h with
  | 0,h=>
   have e:t=u:=aFa h;subst e;subst hb;(refine aH (jZ C) fun v r' bO hv=>?_;subst bO);exact⟨h1,h2,h3,hl,hh,v,rfl,hv⟩
  | i+1,h=>
   have L:=ih i u h hu;refine aA L.next fun v hv ev=>?_;exact⟨L.wide,L.there,L.stray,L.lay,L.hook,v,hv,ev⟩
def XV(L:List Told)(s:At):Prop:=∃ t,L[s.pc]?=some t∧R7 t.before s
def Good(H:House)(k:Nat)(N:Net):Prop:=∀ (x:List Nat) (l:List Frame),x.length=N.width→(∀ v∈x,v<4294967296) →
 ∃ y,turns H N.work (.works ((k,N,started x)::l))=given y l∧y.length=N.widthOut∧∀ v∈y,v<4294967296
theorem rO{H:House}{s w h m:Nat}{M:Net}(q:meant H s w h m=some M):h<s∧kept H h=some M∧M.width=w∧M.widthOut=m:=by
 unfold meant at q
 split at q
 ·rename_i hs;rw[Option.filter_eq_some_iff] at q;obtain⟨q1,q2⟩:=q;rw[aFg,beq_iff_eq,beq_iff_eq] at q2;exact⟨hs,q1,q2.1,q2.2⟩
 ·cases q
theorem o8{z z':Spot}{s s':At}(F:R7 z s)(hw:z'.w=z.w)(ha:z'.aside=z.aside)(hr:s'.row=s.row)(has:s'.aside=s.aside):R7 z' s':=
 ⟨⟨by rw[hw];exact F.ok.1,by rw[hw];exact F.ok.2.1,by rw[ha];exact F.ok.2.2⟩,by rw[hr,hw];exact F.w,by rw[has,ha];exact F.a,by rw[hr];exact F.v,by rw[has];exact F.va⟩
theorem YN{H:House}{p k:Nat}{N:Net}(LK:∀ i t,N.layers[i]?=some t→t.layer≠.out→Link H p N.layers i t)(G:∀ h M,h<p→kept H h=some M→Good H h M){i j n:Nat}(R:Runs N.layers i j n):
  ∀ (s:At) (l:List Frame),s.pc=i→XV N.layers s→∃ s',turns H n (.works ((k,N,s)::l))= .works ((k,N,s')::l)∧s'.pc=j∧s'.loops=s.loops∧XV N.layers s':=by
 induction R with
 | nil i=>exact fun s l h F=>⟨s,rfl,h,rfl,F⟩
 | plain hi hp R ih=>
  rename_i i j n t;intro s l hs F;subst hs;refine aA F fun t' ht' F=>?_;obtain rfl:t=t':=aFa (hi.symm.trans ht');have ne:t.layer≠.out:=fun q=>by
   rw[q] at hp;cases hp
  have L:=LK _ _ hi ne;refine aR (AO F hp L.wide L.there L.lay) fun s1 e1 e2 e3 F1=>?_;refine aA L.next fun u hu eu=>?_;refine aR (ih s1 l e2 ⟨u,by rw[e2];exact hu,by rw[eu];exact F1⟩) fun s2 q1 q2 q3 q4=>?_;refine⟨s2,?_,q2,q3.trans e3,q4⟩;rw[eV,jQ,BW hi hp e1];exact q1
 | hook hi hh R ih=>
  rename_i i j n h m t;intro s l hs F;subst hs;refine aA F fun t' ht' F=>?_;obtain rfl:t=t':=aFa (hi.symm.trans ht');have ne:t.layer≠.out:=fun q=>by
   rw[q] at hh;cases hh
  have L:=LK _ _ hi ne;refine aC (L.hook h m hh) fun M hM hw _=>?_;refine aG (rO hM) fun m1 m2 m3 m4=>?_;refine aC (G h M m1 m2 s.row ((k,N,s)::l) (by rw[F.w,m3]) F.v) fun y y1 y2 y3=>?_;refine aA L.next fun u hu eu=>?_;have ok:=wW F.ok L.wide L.there;have F1:R7 u.before (s.to y):=by
   rw[eu,hh];rw[hh] at ok;exact⟨ok,by show y.length=m;rw[y2,m4],F.a,y3,F.va⟩
  refine aR (ih (s.to y) l rfl ⟨u,hu,F1⟩) fun s2 q1 q2 q3 q4=>?_;refine⟨s2,?_,q2,q3,q4⟩;rw[eV,eV,jQ,F7 hi hh m2,hw,y1];exact q1
 | loop hi hl R g1 g2 g3 g4 R2 ih ih2=>
  rename_i i k' j nb n r t u;intro s l hs F;subst hs;refine aA F fun t' ht' F=>?_;obtain rfl:t=t':=aFa (hi.symm.trans ht');have ne:t.layer≠.out:=fun q=>by
   rw[q] at hl;cases hl
  have L:=LK _ _ hi ne;have ne2:u.layer≠.out:=fun q=>by
   rw[q] at g2;cases g2
  have L2:=LK _ _ g1 ne2;refine aA L.next fun v hv ev=>?_;refine aA L2.next fun v2 hv2 ev2=>?_;rw[hl] at ev;rw[g2] at ev2;have hr:2≤r:=by
   have q:=L.stray;rw[hl] at q;have q':(decide (r<2)||decide (TIMES<t.before.often*r))=false:=q;rw[Bool.or_eq_false_iff] at q';have:=of_decide_eq_false q'.1;lia
  have all:∀ (c:Nat) (s1:At),s1.pc=s.pc+1→s1.loops=(s.pc,c+1)::s.loops→R7 v.before s1→∃ s2,turns H ((c+1)*(nb+1)) (.works ((k,N,s1)::l))= .works ((k,N,s2)::l)∧s2.pc=k'+1∧s2.loops=s.loops∧R7 v2.before s2:=by
   intro c
   induction c with
   | zero=>
    intro s1 a1 a2 a3;(refine aR (ih s1 l a1 ⟨v,by rw[a1];exact hv,a3⟩) fun s2 b1 b2 b3 bO=>?_;refine aA bO fun u' hu' b4=>?_);rw[b2] at hu';obtain rfl:u=u':=aFa (g1.symm.trans hu');refine⟨{s2 with pc:=s2.pc+1,loops:=s.loops},?_,by show s2.pc+1=_;rw[b2],rfl,?_⟩
    ·rw[Nat.zero_add,Nat.one_mul,eV,b1,jQ,yC (by rw[b2];exact g1) g2 (b3.trans a2),if_pos (by lia)]
    ·rw[ev2];exact o8 b4 rfl rfl rfl rfl
   | succ c ihc=>
    intro s1 a1 a2 a3;(refine aR (ih s1 l a1 ⟨v,by rw[a1];exact hv,a3⟩) fun s2 b1 b2 b3 cA=>?_;refine aA cA fun u' hu' b4=>?_);rw[b2] at hu';obtain rfl:u=u':=aFa (g1.symm.trans hu');have F3:R7 v.before {s2 with pc:=s.pc+1,loops:=(s.pc,c+1+1-1)::s.loops}:=by
     rw[ev];exact o8 b4 g3.symm g4.symm rfl rfl
    refine aR (ihc _ rfl rfl F3) fun s3 c1 c2 c3 c4=>?_;refine⟨s3,?_,c2,c3,c4⟩;rw[show (c+1+1)*(nb+1)=nb+1+(c+1)*(nb+1) from by rw[Nat.add_mul (c+1) 1,Nat.one_mul];lia,eV,eV,b1,jQ,yC (by rw[b2];exact g1) g2 (b3.trans a2),if_neg (by lia)];exact c1
  have F1:R7 v.before {s with pc:=s.pc+1,loops:=(s.pc,r)::s.loops}:=by
   rw[ev];exact o8 F rfl rfl rfl rfl
  refine aR (all (r-1) {s with pc:=s.pc+1,loops:=(s.pc,r)::s.loops} rfl (by show (s.pc,r)::s.loops=_;rw[show r-1+1=r from by lia]) F1) fun s2 c1 c2 c3 c4=>?_;refine aR (ih2 s2 l c2 ⟨v2,by rw[c2];exact hv2,c4⟩) fun s3 d1 d2 d3 d4=>?_;refine⟨s3,?_,d2,d3.trans c3,d4⟩;rw[show r-1+1=r from by lia] at c1;rw[eV,eV,jQ,F6 hi hl,c1];exact d1
theorem ZV{H:House}{k:Nat}{N:Net}(C:Chain H k ⟨N.width,[],[]⟩ N.layers)(hw:1≤N.width∧N.width≤64)(G:∀ h M,h<k→kept H h=some M→Good H h M):Good H k N:=by
 intro x l hx hv;refine aS (VI C) fun j n t R h1 h2 h3 h4=>?_;refine aH (jZ C) fun t0 r0 e0 b0=>?_;have F:XV N.layers (started x):=⟨t0,by show N.layers[0]?=some t0;rw[e0];rfl,by
  rw[b0];exact⟨⟨hw.1,hw.2,fun a ha=>by cases ha⟩,hx,rfl,hv,fun y hy=>by cases hy⟩⟩
 (refine aR (YN (k:=k) (JI C) G R (started x) l rfl F) fun s' q1 q2 q3 bO=>?_;refine aA bO fun t' ht' F'=>?_);rw[q2] at ht';obtain rfl:t=t':=aFa (h1.symm.trans ht');refine⟨s'.row,?_,?_,F'.v⟩
 ·rw[←h4,eV,q1,jQ,KQ (by rw[q2];exact h1) h2]
 ·rw[F'.w];unfold Net.widthOut;have:N.layers.getLast?=some t:=by
   rw[List.getLast?_eq_getElem?,show N.layers.length-1=j from by lia];exact h1
  rw[this]
def nO(H:House):Prop:=∀ k N,kept H k=some N→∃ b,judge H k b= .ok N
theorem PU{H:House}(h:nO H):∀ k N,kept H k=some N→Good H k N:=by
 intro k
 induction k using Nat.strongRecOn with
 | _ k ih=>
  intro N hN;obtain⟨b,hb⟩:=h k N hN;refine aF (iX hb) fun C w1 w2=>?_;exact ZV C ⟨w1,w2⟩ fun i M hi hM=>ih i hi M hM
theorem F5(H:House)(y:List Nat):∀ n,turns H n (.out y)= .out y
 | 0=>rfl
 | n+1=>F5 H y n
theorem GP{H:House}{s:Nat}{b:Bytes}:∀ (n:Nat) (z:Spot) (p done:Nat) (l:List Told),readFrom H s b n z p done= .ok l→done+costs l≤WORK
 | 0,z,p,done,l,h=>by cases h
 | n+1,z,p,done,l,h=>by
  unfold readFrom at h
  cases e:wrongAt H s b z p done with
  | some x=>
   rw[e] at h;cases h
  | none=>
   (refine aK (jP e) fun _ _ _ _ _ bO=>?_;refine aF bO fun _ _ cA=>?_;refine aA cA fun t ht hc=>?_);rw[e] at h;dsimp only at h;rw[ht] at h;dsimp only at h;by_cases k:kindAt b p=0
   ·rw[if_pos k] at h;cases h;rw[mO];show done+(t.cost+0)≤WORK;lia
   ·rw[if_neg k] at h
    cases e2:readFrom H s b n (z.next t.layer) (p+1+behind b z.w p) (done+t.cost) with
    | error x=>
     rw[e2] at h;cases h
    | ok l'=>
     rw[e2] at h;cases h;have q:=GP n _ _ _ l' e2;rw[mO];lia
theorem D5{H:House}{s:Nat}{b:Bytes}{N:Net}(h:judge H s b= .ok N):N.work≤4096:=by
 unfold judge at h
 split at h
 ·cases h
 ·split at h
  ·cases h
  ·cases e:readFrom H s b (b.length+1) ⟨le b 4 2,[],[]⟩ 6 0 with
   | error x=>
    rw[e] at h;cases h
   | ok l=>
    rw[e] at h;cases h;have q:=GP _ _ _ _ _ e;rw[QK];unfold WORK at q;show costs l≤4096;lia
theorem uL{H:House}{st:Stand}{y:List Nat}{n F:Nat}(hF:n≤F)(h:turns H n st= .out y):turns H F st= .out y:=by
 obtain⟨d,rfl⟩:∃ d,F=n+d:=⟨F-n,by lia⟩;rw[eV,h,F5]
theorem SC{N:Net}(hw:N.work≤4096):N.work≤2*WORK+2:=by
 unfold WORK;lia
set_option maxRecDepth 1000000 in
theorem NW{H:House}{k:Nat}{N:Net}{x y:List Nat}(e:turns H (2*WORK+2) (.works [(k,N,started x)])= .out y):through H k N x=y:=by
 delta through
 rw[e]
theorem NX{H:House}{k:Nat}{N:Net}{x y:List Nat}(hw:N.work≤4096)(h:turns H N.work (.works [(k,N,started x)])= .out y):through H k N x=y:=
 NW (uL (SC hw) h)
section
variable{H H':House}{s:Nat}(hk:∀ h,h<s→kept H h=kept H' h)
include hk
theorem MC(w h m:Nat):meant H s w h m=meant H' s w h m:=by
 unfold meant;by_cases c:h<s
 ·rw[if_pos c,if_pos c,hk h c]
 ·rw[if_neg c,if_neg c]
theorem vN(b:Bytes)(z:Spot)(p:Nat):toldAt H s b z p=toldAt H' s b z p:=by
 unfold toldAt;cases layerOf b z.w p <;> try rfl
 dsimp only;rw[MC hk]
theorem EZ(b:Bytes)(z:Spot)(p done:Nat):wrongAt H s b z p done=wrongAt H' s b z p done:=by
 unfold wrongAt;rw[vN hk]
theorem rF(b:Bytes):∀ (n:Nat) (z:Spot) (p done:Nat),readFrom H s b n z p done=readFrom H' s b n z p done
 | 0,z,p,done=>rfl
 | n+1,z,p,done=>by
  unfold readFrom;rw[EZ hk,vN hk]
  cases wrongAt H' s b z p done with
  | some x=>rfl
  | none=>
   dsimp only
   cases toldAt H' s b z p with
   | none=>rfl
   | some t=>
    dsimp only;rw[rF b n]
theorem rT(b:Bytes):judge H s b=judge H' s b:=by
 unfold judge;rw[rF hk]
end
structure lO(h:Brain.State):Prop where
 len:h.nets.length=8
 Z7:h.bytes.length=8
 ok:∀ k N,kept h.nets k=some N→judge h.nets k (h.bytes.getD k [])= .ok N
theorem lO.ZS{h:Brain.State}(I:lO h):nO h.nets:=fun k N q=>⟨_,I.ok k N q⟩
theorem BH{H:House}{k:Nat}{N:Net}(h:kept H k=some N):k<H.length:=by
 unfold kept at h;by_cases c:k<H.length
 ·exact c
 ·rw[aFe,List.getElem?_eq_none (by lia)] at h;cases h
theorem KU:lO Brain.start:=by
 refine⟨rfl,rfl,fun k N h=>?_⟩;have hk:=BH h;unfold kept Brain.start SLOTS at h;rw[aFe,List.getElem?_replicate] at h
 split at h <;> cases h
theorem fB(h:Brain.State)(s k:Nat):kept (Brain.emptied h s).nets k=if k<s then kept h.nets k else none:=by
 unfold Brain.emptied kept;dsimp only;rw[aFe,aFe,List.getElem?_mapIdx]
 cases h.nets[k]? with
 | none=>
  split <;> rfl
 | some n=>
  show (if k<s then n else none)=_
  split <;> rfl
theorem oA(h:Brain.State)(s k:Nat):(Brain.emptied h s).bytes.getD k []=if k<s then h.bytes.getD k [] else []:=by
 unfold Brain.emptied;dsimp only;rw[aFe,aFe,List.getElem?_mapIdx]
 cases h.bytes[k]? with
 | none=>
  split <;> rfl
 | some n=>
  show (if k<s then n else [])=_
  split <;> rfl
theorem vG{h:Brain.State}(I:lO h)(s:Nat):lO (Brain.emptied h s):=by
 refine⟨?_,?_,fun k N q=>?_⟩
 ·unfold Brain.emptied;dsimp only;rw[List.length_mapIdx];exact I.len
 ·unfold Brain.emptied;dsimp only;rw[List.length_mapIdx];exact I.Z7
 ·rw[fB] at q;by_cases c:k<s
  ·rw[if_pos c] at q;rw[oA,if_pos c,←I.ok k N q];exact rT (fun i hi=>by rw[fB,if_pos (by lia)]) _
  ·rw[if_neg c] at q;cases q
theorem ZN{h:Brain.State}(I:lO h){s:Nat}{b:Bytes}{N:Net}(hs:s<8)(hj:judge h.nets s b= .ok N):lO ⟨(Brain.emptied h s).nets.set s (some N),(Brain.emptied h s).bytes.set s b⟩:=by
 have E:=vG I s;have kp:∀ k,kept ((Brain.emptied h s).nets.set s (some N)) k=if k=s then some N else kept (Brain.emptied h s).nets k:=fun k=>by
  unfold kept;rw[aFe,List.getElem?_set,aFe];by_cases c:s=k
  ·subst c;rw[if_pos rfl,if_pos rfl,if_pos (by rw[E.len];exact hs)];rfl
  ·rw[if_neg c,if_neg (fun q=>c q.symm)]
 refine⟨by rw[List.length_set];exact E.len,by rw[List.length_set];exact E.Z7,fun k M q=>?_⟩;dsimp only at q ⊢;rw[kp] at q;by_cases c:k=s
 ·subst c;rw[if_pos rfl] at q;cases q;rw[aFe,List.getElem?_set,if_pos rfl,if_pos (by rw[E.Z7];exact hs)];show judge _ k b=_;rw[←hj];refine rT (fun i hi=>?_) b;rw[kp,if_neg (by lia),fB,if_pos hi]
 ·rw[if_neg c] at q;have hk:k<s:=by
   rw[fB] at q;by_cases c2:k<s
   ·exact c2
   ·rw[if_neg c2] at q;cases q
  rw[aFe,List.getElem?_set,if_neg (fun z=>c z.symm),←aFe,←E.ok k M q];exact rT (fun i hi=>by rw[kp,if_neg (by lia)]) _
def bytesOf(l:List Nat):Bytes:=l.map UInt8.ofNat
theorem jW(l:List Nat):Lines.ofBytes (l.map fun (n:Nat)=>(n:Int))=bytesOf l:=by
 unfold Lines.ofBytes bytesOf;rw[List.map_map];rfl
theorem dY(l:List Nat):(bytesOf l).length=l.length:=aFd ..
theorem byte_back{n:Nat}(h:n<256):(UInt8.ofNat n).toNat=n:=by
 rw[UInt8.toNat_ofNat'];exact Nat.mod_eq_of_lt h
theorem SK{l:List Nat}(h:∀ x∈l,x<256):Lines.toInts (bytesOf l)=l.map fun (n:Nat)=>(n:Int):=by
 unfold Lines.toInts bytesOf;rw[List.map_map];refine aFE fun x hx=>?_;show ((UInt8.ofNat x).toNat:Int)=(x:Int);rw[byte_back (h x hx)]
theorem MU{l m:List Nat}(hl:∀ x∈l,x<256)(hm:∀ x∈m,x<256)(h:bytesOf l=bytesOf m):l=m:=by
 induction l generalizing m with
 | nil=>
  cases m with
  | nil=>rfl
  | cons y r=>cases h
 | cons x l ih=>
  cases m with
  | nil=>cases h
  | cons y r=>
   have h':UInt8.ofNat x::bytesOf l=UInt8.ofNat y::bytesOf r:=h;obtain⟨h1,h2⟩:=List.cons.inj h';have e:=congrArg UInt8.toNat h1;rw[byte_back (hl x (aFh ..)),byte_back (hm y (aFh ..))] at e;rw[e,ih (fun z hz=>hl z (aFk _ hz)) (fun z hz=>hm z (aFk _ hz)) h2]
theorem xP(l:List Nat)(n:Nat):(bytesOf l).take n=bytesOf (l.take n):=by
 unfold bytesOf;rw[List.map_take]
theorem JU(l:List Nat)(n:Nat):(bytesOf l).drop n=bytesOf (l.drop n):=by
 unfold bytesOf;rw[List.map_drop]
def leN:List Nat→Nat
 | []=>0
 | c::r=>c+256*leN r
theorem le_eq{l:List Nat}(h:∀ x∈l,x<256)(i n:Nat):le (bytesOf l) i n=leN ((l.drop i).take n):=by
 unfold le;rw[JU,xP];have h':∀ x∈(l.drop i).take n,x<256:=fun x hx=>h x (wY hx);generalize (l.drop i).take n=m at h';unfold bytesOf
 induction m with
 | nil=>rfl
 | cons c r ih=>
  rw[List.map_cons,List.foldr_cons,byte_back (h' c (aFh ..))];show c+256*_=c+256*leN r;rw[ih fun x hx=>h' x (aFk _ hx)]
theorem mM{l:List Nat}{i n:Nat}(h:i<l.length):(l.drop i).take (n+1)=l.getD i 0::(l.drop (i+1)).take n:=by
 rw[List.drop_eq_getElem_cons h,List.take_succ_cons,aFe,aFv h];rfl
theorem ZI{l:List Nat}(h:∀ x∈l,x<256){i:Nat}(hi:i<l.length):le (bytesOf l) i 1=l.getD i 0:=by
 rw[le_eq h,mM hi,List.take_zero];show l.getD i 0+256*0=_;lia
theorem aBq{l:List Nat}(h:∀ x∈l,x<256){i:Nat}(hi:i+1<l.length):le (bytesOf l) i 2=l.getD i 0+256*l.getD (i+1) 0:=by
 rw[le_eq h,mM (by lia),mM hi,List.take_zero];show l.getD i 0+256*(l.getD (i+1) 0+256*0)=_;lia
theorem aDV{l:List Nat}(h:∀ x∈l,x<256){i:Nat}(hi:i+3<l.length):le (bytesOf l) i 4=l.getD i 0+256*l.getD (i+1) 0+65536*l.getD (i+2) 0+16777216*l.getD (i+3) 0:=by
 rw[le_eq h,mM (by lia),mM (by lia),mM (by lia),mM hi,List.take_zero];show l.getD i 0+256*(l.getD (i+1) 0+256*(l.getD (i+2) 0+256*(l.getD (i+3) 0+256*0)))=_;lia
theorem kind_eq{l:List Nat}(h:∀ x∈l,x<256){p:Nat}(hp:p<l.length):kindAt (bytesOf l) p=l.getD p 0:=ZI h hp
theorem MD{l:List Nat}(h:∀ x∈l,x<256):(bytesOf l).take 4=MAGIC↔l.take 4=[66,82,78,49]:=by
 rw[xP,show MAGIC=bytesOf [66,82,78,49] from rfl];refine⟨fun q=>MU (fun x hx=>h x (List.mem_of_mem_take hx)) (by decide) q,fun q=>by rw[q]⟩
theorem TU(a b:List Nat):joined (bytesOf a) (bytesOf b)=bytesOf (a.dropLast++b.drop 6):=by
 unfold joined bytesOf;rw[aFC,List.map_dropLast,List.map_drop]
theorem RC{l:List Nat}(h:∀ x∈l,x<256)(w:Nat):∀ (n p:Nat),manyFrom w n ((bytesOf l).drop p)=(List.range n).map fun i=>leN ((l.drop (p+w*i)).take w)
 | 0,p=>rfl
 | n+1,p=>by
  unfold manyFrom;have e:le ((bytesOf l).drop p) 0 w=leN ((l.drop p).take w):=by
   rw[←le_eq h];unfold le;rw[List.drop_drop,Nat.add_zero]
  rw[e,List.drop_drop,RC h w n (p+w),List.range_succ_eq_map,List.map_cons,List.map_map,Nat.mul_zero,Nat.add_zero];congr 1;refine aFE fun i _=>?_;show leN ((l.drop (p+w+w*i)).take w)=leN ((l.drop (p+w*(i+1))).take w);rw[Nat.mul_succ,show p+w+w*i=p+(w*i+w) from by lia]
def BQ(N:Net):List (Nat×Nat×List Nat)→List (Nat×Nat)→Prop
 | [],[]=>True
 | e::es,x::r=>(∃ tj rr,N.layers[x.1]?=some tj∧tj.layer= .loop rr∧tj.before.w=e.2.1∧tj.before.aside=e.2.2∧tj.before.loops=es)∧1≤x.2∧BQ N es r
 | _,_=>False
structure NH(N:Net)(t:Told)(s:At):Prop where
 at_:N.layers[s.pc]?=some t
 fit:R7 t.before s
 loops:BQ N t.before.loops s.loops
def flat:List Frame→List Nat
 | []=>[]
 | f::l=>flat l++f.2.2.aside.reverse.flatten
def Waits(N:Net):List Frame→Prop
 | []=>True
 | f::_=>∃ t1 h m,f.2.1.layers[f.2.2.pc]?=some t1∧t1.layer= .hook h m∧N.widthOut=m
def fS(H:House)(L:Nat):List Frame→Prop
 | []=>True
 | f::l=>kept H f.1=some f.2.1∧(∃ t,NH f.2.1 t f.2.2)∧(flat l).length+f.2.1.need≤L∧Waits f.2.1 l∧fS H L l
theorem dI:∀ (l:List (List Nat)),l.reverse.flatten.length=total (l.map List.length)
 | []=>rfl
 | x::l=>by
  rw[aFr,List.flatten_append,aFb,dI l,List.map_cons];show _+[x].flatten.length=x.length+total (l.map List.length);rw[aFI,List.flatten_nil,List.append_nil];omega
theorem yZ:∀ (l:List Told) (n:Nat),n≤l.foldl (fun (n:Nat) (t:Told)=>max n t.held) n∧∀ t∈l,t.held≤l.foldl (fun (n:Nat) (t:Told)=>max n t.held) n
 | [],n=>⟨aFi _,fun t h=>by cases h⟩
 | u::l,n=>by
  obtain⟨h1,h2⟩:=yZ l (max n u.held);refine⟨aFt (Nat.le_max_left _ _) h1,fun t ht=>?_⟩;rcases aEZ.mp ht with rfl | ht
  ·exact aFt (Nat.le_max_right _ _) h1
  ·exact h2 t ht
theorem RQ{N:Net}{i:Nat}{t:Told}(h:N.layers[i]?=some t):t.held≤N.need:=(yZ N.layers N.width).2 t (aFO h)
theorem UV(N:Net):N.width≤N.need:=(yZ N.layers N.width).1
theorem LR{H:House}{s:Nat}{z:Spot}{l:List Told}(C:Chain H s z l):∀ (i:Nat) (t:Told),l[i]?=some t→t.layer= .out→l.getLast?=some t∧t.before.aside=[]∧t.before.loops=[]:=by
 induction C with
 | last hb ho hl ha _ _=>
  intro i t h _
  match i,h with
  | 0,h=>
   cases h;exact⟨rfl,by rw[hb];exact ha,by rw[hb];exact hl⟩
  | i+1,h=>cases h
 | cons hb ho _ _ _ _ _ _ C ih=>
  rename_i z u r;intro i t h hn
  match i,h with
  | 0,h=>
   cases h;exact absurd hn ho
  | i+1,h=>
   obtain⟨g1,g2⟩:=ih i t h hn;refine⟨?_,g2⟩;(refine aH (jZ C) fun v r' bO _=>?_;subst bO);rw[List.getLast?_cons_cons];exact g1
theorem SE{H:House}{s:Nat}{N:Net}{i:Nat}{t:Told}(C:Chain H s ⟨N.width,[],[]⟩ N.layers)(h:N.layers[i]?=some t)(ho:t.layer= .out):N.widthOut=t.before.w:=by
 unfold Net.widthOut;rw[(LR C i t h ho).1]
section
variable{H:House}(hH:nO H){L k:Nat}{N:Net}{s:At}{l:List Frame}{t:Told}
theorem fU(hH:nO H){k:Nat}{N:Net}(hk:kept H k=some N):Chain H k ⟨N.width,[],[]⟩ N.layers∧1≤N.width∧N.width≤64∧∀ i t,N.layers[i]?=some t→t.layer≠.out→Link H k N.layers i t:=by
 obtain⟨b,hb⟩:=hH k N hk;refine aF (iX hb) fun C w1 w2=>?_;exact⟨C,w1,w2,JI C⟩
theorem VO{c:Layer}(h:isPlain c=true):c≠.out:=fun q=>by
 rw[q] at h;cases h
theorem LH{c:Layer}(z:Spot)(h:isPlain c=true):(z.next c).loops=z.loops:=by
 cases c <;> first | rfl | cases h
include hH
theorem eG(F:fS H L ((k,N,s)::l))(O:NH N t s)(hp:isPlain t.layer=true):∃ s',s.after t.layer=some s'∧s'.pc=s.pc+1∧s'.loops=s.loops∧turn H (.works ((k,N,s)::l))= .works ((k,N,s')::l)∧fS H L ((k,N,s')::l):=by
 refine aL F fun hk _ hn hw hl=>?_;refine aG (fU hH hk) fun _ _ _ LK=>?_;have Lk:=LK _ _ O.at_ (VO hp);refine aR (AO O.fit hp Lk.wide Lk.there Lk.lay) fun s1 e1 e2 e3 F1=>?_;refine aA Lk.next fun u hu eu=>?_;refine⟨s1,e1,e2,e3,BW O.at_ hp e1,hk,⟨u,by rw[e2];exact hu,by rw[eu];exact F1,?_⟩,hn,hw,hl⟩;rw[eu,LH _ hp,e3];exact O.loops
theorem SR{r:Nat}(F:fS H L ((k,N,s)::l))(O:NH N t s)(hp:t.layer= .loop r):2≤r∧turn H (.works ((k,N,s)::l))= .works ((k,N,{s with pc:=s.pc+1,loops:=(s.pc,r)::s.loops})::l)∧fS H L ((k,N,{s with pc:=s.pc+1,loops:=(s.pc,r)::s.loops})::l):=by
 refine aL F fun hk _ hn hw hl=>?_;refine aG (fU hH hk) fun _ _ _ LK=>?_;have Lk:=LK _ _ O.at_ (by rw[hp];exact fun q=>by cases q);refine aA Lk.next fun u hu eu=>?_;rw[hp] at eu;have hr:2≤r:=by
  have h:=Lk.stray;rw[hp] at h;have h':(decide (r<2)||decide (TIMES<t.before.often*r))=false:=h;rw[Bool.or_eq_false_iff] at h';have:=of_decide_eq_false h'.1;omega
 refine⟨hr,F6 O.at_ hp,hk,⟨u,hu,?_,?_⟩,hn,hw,hl⟩
 ·rw[eu];exact o8 O.fit rfl rfl rfl rfl
 ·rw[eu];exact⟨⟨t,r,O.at_,hp,rfl,rfl,rfl⟩,by show 1≤r;omega,O.loops⟩
theorem ST(F:fS H L ((k,N,s)::l))(O:NH N t s)(hp:t.layer= .back):∃ j n es,s.loops=(j,n)::es∧1≤n ∧
  turn H (.works ((k,N,s)::l))= .works ((k,N,if n≤1 then {s with pc:=s.pc+1,loops:=es} else {s with pc:=j+1,loops:=(j,n-1)::es})::l) ∧
  fS H L ((k,N,if n≤1 then {s with pc:=s.pc+1,loops:=es} else {s with pc:=j+1,loops:=(j,n-1)::es})::l):=by
 refine aL F fun hk _ hn hw hl=>?_;refine aG (fU hH hk) fun _ _ _ LK=>?_;have Lk:=LK _ _ O.at_ (by rw[hp];exact fun q=>by cases q);refine aA Lk.next fun u hu eu=>?_;rw[hp] at eu;have hs:=Lk.stray;rw[hp] at hs;have hs':(match t.before.loops with | []=>true | x::_=>decide (x.2≠(t.before.w,t.before.aside)))=false:=hs;have hL:=O.loops
 cases ez:t.before.loops with
 | nil=>
  rw[ez] at hs';cases hs'
 | cons e es=>
  rw[ez] at hs' hL;have he:e.2=(t.before.w,t.before.aside):=aFA (of_decide_eq_false hs')
  cases el:s.loops with
  | nil=>
   rw[el] at hL;exact hL.elim
  | cons x r=>
   rw[el] at hL;(refine aF hL fun bO hn1 hr=>?_;refine aT bO fun tj rr g1 g2 g3 g4 g5=>?_);obtain⟨j,n⟩:=x;refine⟨j,n,r,rfl,hn1,yC O.at_ hp el,hk,?_,hn,hw,hl⟩;show ∃ t',NH N t' (if n≤1 then _ else _);by_cases c:n≤1
   ·rw[if_pos c];refine⟨u,hu,?_,?_⟩
    ·rw[eu];exact o8 O.fit rfl rfl rfl rfl
    ·rw[eu];show BQ N (t.before.loops.drop 1) r;rw[ez];exact hr
   ·rw[if_neg c];have Lj:=LK j tj g1 (by rw[g2];exact fun q=>by cases q);refine aA Lj.next fun v hv ev=>?_;rw[g2] at ev;have ew:tj.before.w=t.before.w:=by rw[g3,he]
    have ea:tj.before.aside=t.before.aside:=by rw[g4,he]
    refine⟨v,hv,?_,?_⟩
    ·rw[ev];exact o8 O.fit ew ea rfl rfl
    ·rw[ev];exact⟨⟨tj,rr,g1,g2,rfl,rfl,rfl⟩,by show 1≤n-1;omega,by rw[g5];exact hr⟩
theorem SS{h m:Nat}(F:fS H L ((k,N,s)::l))(O:NH N t s)(hp:t.layer= .hook h m):∃ M,h<k∧kept H h=some M∧turn H (.works ((k,N,s)::l))= .works ((h,M,started s.row)::(k,N,s)::l)∧fS H L ((h,M,started s.row)::(k,N,s)::l):=by
 have F0:=F;refine aL F fun hk _ hn hw hl=>?_;refine aG (fU hH hk) fun _ _ _ LK=>?_;have Lk:=LK _ _ O.at_ (by rw[hp];exact fun q=>by cases q);refine aC (Lk.hook h m hp) fun M hM hMw hMn=>?_;refine aG (rO hM) fun m1 m2 m3 m4=>?_;refine aG (fU hH m2) fun CM v1 v2 _=>?_;refine aH (jZ CM) fun t0 r0 e0 b0=>?_;refine⟨M,m1,m2,F7 O.at_ hp m2,m2,⟨t0,by show M.layers[0]?=_;rw[e0];rfl,?_,?_⟩,?_,⟨t,h,m,O.at_,hp,m4⟩,F0⟩
 ·rw[b0];exact⟨⟨v1,v2,fun a ha=>by cases ha⟩,by show s.row.length=M.width;rw[O.fit.w,m3],rfl,O.fit.v,fun y hy=>by cases hy⟩
 ·rw[b0];trivial
 ·show (flat l++s.aside.reverse.flatten).length+M.need≤L;have h1:=RQ O.at_;rw[aFb,dI,O.fit.a];have hn':(flat l).length+N.need≤L:=hn;have h2:total t.before.aside+t.need≤t.held:=by
   unfold Told.held;omega
  rw[hMn] at h2;omega
theorem U8(F:fS H L ((k,N,s)::l))(O:NH N t s)(hp:t.layer= .out):s.aside=[]∧turn H (.works ((k,N,s)::l))=given s.row l∧match l with
  | []=>True
  | f::r=>fS H L ((f.1,f.2.1,f.2.2.to s.row)::r)∧f.2.2.row.length≤f.2.2.row.length:=by
 refine aL F fun hk _ hn hw hl=>?_;refine aG (fU hH hk) fun C _ _ _=>?_;refine aF (LR C _ _ O.at_ hp) fun o1 o2 o3=>?_;have ea:s.aside=[]:=by
  have:=O.fit.a;rw[o2] at this;exact List.map_eq_nil_iff.mp this
 refine⟨ea,KQ O.at_ hp,?_⟩
 cases l with
 | nil=>trivial
 | cons f r=>
  obtain⟨k1,N1,s1⟩:=f;refine aJ hw fun t1 h m g1 g2 g3=>?_;(refine aL hl fun hk1 bO hn1 hw1 hl1=>?_;obtain⟨t1',O1⟩:=bO);have et:t1=t1':=aFa (g1.symm.trans O1.at_);subst et;refine aG (fU hH hk1) fun _ _ _ LK1=>?_;have Lk:=LK1 _ _ O1.at_ (by rw[g2];exact fun q=>by cases q);refine aA Lk.next fun u hu eu=>?_;have ok:=wW O1.fit.ok Lk.wide Lk.there;rw[g2] at eu ok;refine⟨⟨hk1,⟨u,hu,?_,?_⟩,hn1,hw1,hl1⟩,aFi _⟩
  ·rw[eu];refine⟨ok,?_,O1.fit.a,O.fit.v,O1.fit.va⟩;show s.row.length=m;rw[O.fit.w,←SE C O.at_ hp,g3]
  ·rw[eu];exact O1.loops
end
theorem ID{H:House}(hH:nO H){k:Nat}{N:Net}{x:List Nat}(hk:kept H k=some N)(hx:x.length=N.width)(hv:∀ v∈x,v<4294967296):fS H N.need [(k,N,started x)]:=by
 refine aG (fU hH hk) fun C v1 v2 _=>?_;refine aH (jZ C) fun t0 r0 e0 b0=>?_;refine⟨hk,⟨t0,by show N.layers[0]?=_;rw[e0];rfl,?_,?_⟩,by show 0+N.need≤N.need;omega,trivial,trivial⟩
 ·rw[b0];exact⟨⟨v1,v2,fun a ha=>by cases ha⟩,hx,rfl,hv,fun y hy=>by cases hy⟩
 ·rw[b0];trivial
def over(S:List Nat)(a:Nat)(ys:List Nat):List Nat:=S.take a++ys++S.drop (a+ys.length)
theorem fZ{S ys:List Nat}{a:Nat}(h:a+ys.length≤S.length):(over S a ys).length=S.length:=by
 unfold over;rw[aFb,aFb,aFq,aFp];lia
theorem o5(S:List Nat)(a:Nat):over S a []=S:=by
 unfold over;rw[List.append_nil,List.length_nil,Nat.add_zero,List.take_append_drop]
theorem rK{S ys:List Nat}{a p:Nat}(hl:a+ys.length≤S.length)(h:p<a∨a+ys.length≤p):(over S a ys).getD p 0=S.getD p 0:=by
 unfold over;rw[aFe,aFe];have l1:(S.take a).length=a:=by rw[aFq];lia
 rcases h with h | h
 ·rw[aFJ,aFK (by lia),aFP h]
 ·rw[aFu (by rw[aFb];lia),aFb,l1,List.getElem?_drop];congr 2;lia
theorem o4{S ys:List Nat}{a y:Nat}(h:a+ys.length<S.length):(over S a ys).set (a+ys.length) y=over S a (ys++[y]):=by
 unfold over;have l1:(S.take a).length=a:=by rw[aFq];lia
 have l2:(S.take a++ys).length=a+ys.length:=by rw[aFb,l1]
 rw[List.set_append_right _ _ (by lia),l2,Nat.sub_self,List.drop_eq_getElem_cons h,List.set_cons_zero,aFb,List.length_cons,List.length_nil,←Nat.add_assoc];simp
theorem pN{S ys:List Nat}{a:Nat}(h1:∀ x∈S,x<4294967296)(h2:∀ x∈ys,x<4294967296):∀ x∈over S a ys,x<4294967296:=by
 intro x hx;unfold over at hx;rcases List.mem_append.mp hx with hx | hx
 ·rcases List.mem_append.mp hx with hx | hx
  ·exact h1 x (List.mem_of_mem_take hx)
  ·exact h2 x hx
 ·exact h1 x (List.mem_of_mem_drop hx)
theorem mF{X Y ys:List Nat}{a:Nat}(ha:a=X.length):over (X++Y) a ys=X++(ys++Y.drop ys.length):=by
 subst ha;unfold over;rw[List.take_left,aFJ,List.drop_append,List.drop_eq_nil_of_le (show X.length≤X.length+ys.length by lia),List.nil_append,show X.length+ys.length-X.length=ys.length from by lia]
theorem kR{X Y:List Nat}{i j:Nat}(h:j=X.length+i):(X++Y).getD j 0=Y.getD i 0:=by
 subst h;rw[aFe,aFu (by lia),show X.length+i-X.length=i from by lia,←aFe]
theorem iY{X Y:List Nat}{i:Nat}(h:i<X.length):(X++Y).getD i 0=X.getD i 0:=by
 rw[aFe,aFK h,←aFe]
theorem mI(f:Nat→Nat)(x:List Nat):(List.range x.length).map (fun i=>f (x.getD i 0))=x.map f:=by
 refine xJ (by rw[aFd,aFy,aFd]) fun i hi=>?_;rw[aFd,aFy] at hi;rw[aFe,aFe,aFH,aFH,List.getElem?_range hi,aFv hi];show f (x.getD i 0)=f x[i];rw[aFe,aFv hi];rfl
theorem gN(f:Nat→Nat)(i:Nat):(List.range (i+1)).map f=(List.range i).map f++[f i]:=by
 rw[List.range_succ,aFC];rfl
theorem bW(f:Nat→Nat)(i:Nat):((List.range i).map f).length=i:=by rw[aFd,aFy]
theorem T6{x:List Nat}{f m:Nat}(h:f+m≤x.length):(List.range m).map (fun i=>x.getD (f+i) 0)=(x.drop f).take m:=by
 refine xJ (by rw[aFd,aFy,aFq,aFp];lia) fun i hi=>?_;rw[aFd,aFy] at hi;rw[rW hi,aFe,aFH,List.getElem?_range hi];rfl
def NE:List (Nat×Nat×List Nat)→Prop
 | []=>True
 | e::es=>2 ^ (es.length+1)≤e.1∧e.1≤256∧NE es
structure uE(z:Spot):Prop where
 ok:sG z
 al:z.aside.length≤16
 lb:NE z.loops
theorem NE.len:∀ {l:List (Nat×Nat×List Nat)},NE l→l.length≤8
 | [],_=>aFx _
 | e::es,⟨h1,h2,_⟩=>by
  rw[List.length_cons];refine aFA fun c=>?_;have h3:2 ^ 9≤2 ^ (es.length+1):=Nat.pow_le_pow_right (by decide) (by lia);have h4:(2:Nat) ^ 9=512:=rfl;lia
theorem KR:∀ {l:List Nat},(∀ a∈l,1≤a∧a≤64)→total l≤64*l.length
 | [],_=>aFi _
 | a::l,h=>by
  have h1:=KR (l:=l) fun x hx=>h x (aFk _ hx);have h2:=(h a (aFh ..)).2;show a+total l≤64*(l.length+1);lia
theorem uE.total{z:Spot}(h:uE z):total z.aside≤1024:=by
 have h1:=KR h.ok.2.2;have h2:=h.al;lia
theorem V7{z:Spot}{c:Layer}(h:uE z)(h1:z.tooWide c=false)(h2:z.without c=false)(h3:z.astray c=false):uE (z.next c):=by
 refine⟨wW h.ok h1 h2,?_,?_⟩
 ·have ha:=h.al
  cases c with
  | aside=>
   have h2':decide (ASIDES≤z.aside.length)=false:=h2;have:=of_decide_eq_false h2';unfold ASIDES at this;show (z.w::z.aside).length≤16;rw[List.length_cons];lia
  | add=>show (z.aside.drop 1).length≤16;rw[aFp];lia
  | times=>show (z.aside.drop 1).length≤16;rw[aFp];lia
  | join=>show (z.aside.drop 1).length≤16;rw[aFp];lia
  | swap=>
   have h2':z.aside.isEmpty=false:=h2;show (z.w::z.aside.drop 1).length≤16;rw[List.length_cons,aFp];have:z.aside≠[]:=by
    intro e;rw[e] at h2';cases h2'
   have:=List.length_pos_iff.mpr this;lia
  | _=>exact ha
 ·have hb:=h.lb
  cases c with
  | loop r=>
   have h3':(decide (r<2)||decide (TIMES<z.often*r))=false:=h3;rw[Bool.or_eq_false_iff] at h3';have q1:=of_decide_eq_false h3'.1;have q2:=of_decide_eq_false h3'.2;unfold TIMES at q2;refine⟨?_,by lia,hb⟩;show 2 ^ (z.loops.length+1)≤z.often*r;have q3:2 ^ z.loops.length≤z.often:=by
    unfold Spot.often
    cases e:z.loops with
    | nil=>exact aFi _
    | cons x es=>
     rw[e] at hb;exact hb.1
   rw[Nat.pow_succ];exact Nat.mul_le_mul q3 (by lia)
  | back=>
   show NE (z.loops.drop 1)
   cases e:z.loops with
   | nil=>trivial
   | cons x es=>
    rw[e] at hb;exact hb.2.2
  | _=>exact hb
theorem Z6{H:House}{s:Nat}{z:Spot}{l:List Told}(C:Chain H s z l):uE z→∀ t∈l,uE t.before:=by
 induction C with
 | last hb _ _ _ _ _=>
  intro h t ht;rw[aFF.mp ht,hb];exact h
 | cons hb ho h1 h2 h3 hl hn hh C ih=>
  intro h t ht;rcases aEZ.mp ht with rfl | ht
  ·rw[hb];exact h
  ·exact ih (V7 h h1 h2 h3) t ht
theorem D4{H:House}{s:Nat}{b:Bytes}{N:Net}(h:judge H s b= .ok N):∀ t∈N.layers,uE t.before:=by
 refine aF (iX h) fun C w1 w2=>?_;exact Z6 C ⟨⟨w1,w2,fun a ha=>by cases ha⟩,aFx _,trivial⟩
def ZC:Layer→Nat
 | .dense m _ _=>m
 | .hook _ m=>m
 | _=>0
theorem JN(t:Told):t.held=max (total t.before.aside+max t.need (t.before.w+ZC t.layer)) (total (t.before.next t.layer).aside+(t.before.next t.layer).w):=by
 unfold Told.held;cases t.layer <;> rfl
theorem D9{t:Told}{B:Nat}(h:uE t.before)(h2:uE (t.before.next t.layer))(hn:t.need≤B)(hm:ZC t.layer≤64):t.held≤1024+max B 128:=by
 have h3:=h.total;have h4:=h2.total;have h5:=h.ok.2.1;have h6:=h2.ok.2.1;rw[JN];lia
theorem AM{H:House}{s:Nat}{z:Spot}{l:List Told}(C:Chain H s z l):∀ t∈l,D7 t.layer=false→t.need=0:=by
 induction C with
 | last hb ho' _ _ _ hn'=>
  intro t ht _;rw[aFF.mp ht];exact hn'
 | cons hb ho' _ _ _ _ hn' _ C' ih'=>
  intro t ht hh;rcases aEZ.mp ht with rfl | ht
  ·exact(hn' hh).2
  ·exact ih' t ht hh
theorem ZB{z:Spot}{c:Layer}(h:z.tooWide c=false):ZC c≤64:=by
 cases c with
 | dense m w c=>exact(eQ h).2
 | hook i m=>exact(eQ h).2
 | _=>exact aFx _
theorem EE:∀ (l:List Told) (n B:Nat),n≤B→(∀ t∈l,t.held≤B)→l.foldl (fun (n:Nat) (t:Told)=>max n t.held) n≤B
 | [],n,B,h,_=>h
 | t::l,n,B,h,k=>by
  show l.foldl _ (max n t.held)≤B;have:=k t (aFh ..);exact EE l _ B (by lia) fun u hu=>k u (aFk _ hu)
theorem vA{H:House}(hH:nO H):∀ (k:Nat) (N:Net),kept H k=some N→N.need≤1024*(k+1)+128:=by
 intro k
 induction k using Nat.strongRecOn with
 | _ k ih=>
  intro N hN;obtain⟨b,hb⟩:=hH k N hN;refine aF (iX hb) fun C w1 w2=>?_;have hB:=D4 hb;refine EE _ _ _ (by lia) fun t ht=>?_;obtain⟨i,hi⟩:=List.getElem?_of_mem ht;have h1:=hB t ht;by_cases ho:t.layer= .out
  ·have hn:=AM C t ht (by rw[ho];rfl);have:=D9 (B:=0) h1 (by rw[ho];exact h1) (by lia) (by rw[ho];exact aFx _);lia
  ·have L:=JI C i t hi ho;have h2:=V7 h1 L.wide L.there L.stray;have hn:t.need≤1024*k+128:=by
    by_cases e:D7 t.layer=true
    ·cases e2:t.layer with
     | hook i m=>
      refine aC (L.hook i m e2) fun M hM _ hn=>?_;refine aG (rO hM) fun m1 m2 _ _=>?_;rw[hn];have:=ih i m1 M m2;have h3:1024*(i+1)≤1024*k:=Nat.mul_le_mul_left _ (by lia);lia
     | _=>rw[e2] at e;cases e
    ·rw[AM C t ht (by simpa using e)];exact aFx _
   have:=D9 (B:=1024*k+128) h1 h2 hn (ZB L.wide);lia
def kindOf:Layer→Nat
 | .out=>0
 | .dense _ _ _=>1
 | .clamp=>2
 | .narrow=>3
 | .aside=>4
 | .add=>5
 | .times=>6
 | .scale _=>7
 | .shift _=>8
 | .hook _ _=>9
 | .slice _ _=>10
 | .swap=>11
 | .join=>12
 | .greatest=>13
 | .loop _=>14
 | .back=>15
theorem PL{b:Bytes}{w p:Nat}(h15:kindAt b p≤15):kindOf (layerOf b w p)=kindAt b p:=by
 generalize hk:kindAt b p=k at h15;have hk':k=0∨k=1∨k=2∨k=3∨k=4∨k=5∨k=6∨k=7∨k=8∨k=9∨k=10∨k=11∨k=12∨k=13∨k=14∨k=15:=by lia
 rcases hk' with rfl | rfl | rfl | rfl | rfl | rfl | rfl | rfl | rfl | rfl | rfl | rfl | rfl | rfl | rfl | rfl <;> simp only[layerOf,hk] <;> rfl
theorem CY{H:House}{s:Nat}{b:Bytes}:∀ (n:Nat) (z:Spot) (p done:Nat) (l:List Told),readFrom H s b n z p done= .ok l→∀ t∈l,t.kind=kindOf t.layer
 | 0,z,p,done,l,h=>by cases h
 | n+1,z,p,done,l,h=>by
  unfold readFrom at h
  cases e:wrongAt H s b z p done with
  | some x=>
   rw[e] at h;cases h
  | none=>
   (refine aK (jP e) fun _ w2 _ _ _ bO=>?_;refine aF bO fun _ _ cA=>?_;refine aA cA fun t ht hc=>?_);refine aL (gH ht) fun _ t2 _ t4 _=>?_;have tk:t.kind=kindOf t.layer:=by rw[t2,t4,PL w2]
   rw[e] at h;dsimp only at h;rw[ht] at h;dsimp only at h;by_cases k:kindAt b p=0
   ·rw[if_pos k] at h;cases h;intro u hu;rw[aFF.mp hu];exact tk
   ·rw[if_neg k] at h
    cases e2:readFrom H s b n (z.next t.layer) (p+1+behind b z.w p) (done+t.cost) with
    | error x=>
     rw[e2] at h;cases h
    | ok l'=>
     rw[e2] at h;cases h;intro u hu;rcases aEZ.mp hu with rfl | hu
     ·exact tk
     ·exact CY n _ _ _ l' e2 u hu
theorem MI{H:House}{s:Nat}{b:Bytes}{N:Net}(h:judge H s b= .ok N):∀ t∈N.layers,t.kind=kindOf t.layer:=by
 unfold judge at h
 split at h
 ·cases h
 ·split at h
  ·cases h
  ·cases e:readFrom H s b (b.length+1) ⟨le b 4 2,[],[]⟩ 6 0 with
   | error x=>
    rw[e] at h;cases h
   | ok l=>
    rw[e] at h;cases h;exact CY _ _ _ _ _ e
theorem GX{N:Net}:∀ {a:List (Nat×Nat×List Nat)} {b:List (Nat×Nat)},BQ N a b→a.length=b.length
 | [],[],_=>rfl
 | e::es,x::r,⟨_,_,h⟩=>by rw[List.length_cons,List.length_cons,GX h]
 | [],_::_,h=>h.elim
 | _::_,[],h=>h.elim
def aDk:List Frame→Prop
 | []=>True
 | f::r=>r.length+f.1≤7∧aDk r
end BM
namespace L2
open PySem PySem.Spec PyProof.Rows
abbrev Key:=Sum Int Str
def GY:Key→Value→Bool
 | .inl k,v=>Value.isInt k v
 | .inr x,v=>Value.isStrOf x v
def aEb(w:World):Key→Int
 | .inl k=>hashInt k
 | .inr x=>hashStr w x
theorem fA:∀ {k:Key} {v:Value},GY k v=true→(∃ i t,k=Sum.inl i∧v=Value.int i t)∨(∃ x t,k=Sum.inr x∧v=Value.str x t)
 | .inl i,v,h=>by
  obtain⟨t,e⟩:=Value.isInt_shape (k:=i) (v:=v) h;exact .inl ⟨i,t,rfl,e⟩
 | .inr x,v,h=>by
  obtain⟨t,e⟩:=Value.isStrOf_shape (x:=x) (v:=v) h;exact .inr ⟨x,t,rfl,e⟩
theorem TQ(i:Int)(t:Tok):GY (.inl i) (.int i t)=true:=by simp [GY,Value.isInt]
theorem TN(x:Str)(t:Tok):GY (.inr x) (.str x t)=true:=by simp [GY,Value.isStrOf]
theorem aBw(a b:Int):decide ((Sum.inl a:Key)=Sum.inl b)=(a==b):=by
 by_cases e:a=b
 ·subst e;simp
 ·have h:¬(Sum.inl a:Key)=Sum.inl b:=fun q=>e (Sum.inl.inj q);rw[decide_eq_false h];exact(aFG.mpr e).symm
theorem aBt(a b:Str):decide ((Sum.inr a:Key)=Sum.inr b)=decide (a=b):=by
 by_cases e:a=b
 ·subst e;simp
 ·have h:¬(Sum.inr a:Key)=Sum.inr b:=fun q=>e (Sum.inr.inj q);rw[decide_eq_false h,decide_eq_false e]
theorem aBv(a:Int)(b:Str):decide ((Sum.inl a:Key)=Sum.inr b)=false:=decide_eq_false (fun q=>nomatch q)
theorem aBu(a:Str)(b:Int):decide ((Sum.inr a:Key)=Sum.inl b)=false:=decide_eq_false (fun q=>nomatch q)
def nJ(prog:Program)(w:World):PySem.KeyKind prog w Key where
 is:=GY
 hash:=aEb w
 inj:=fun v a b ha hb=>by
  rcases fA ha with ⟨i,t,rfl,rfl⟩ | ⟨x,t,rfl,rfl⟩
  ·rcases fA hb with ⟨j,u,rfl,e⟩ | ⟨y,u,rfl,e⟩
   ·injection e with e1 _;rw[e1]
   ·exact nomatch e
  ·rcases fA hb with ⟨j,u,rfl,e⟩ | ⟨y,u,rfl,e⟩
   ·exact nomatch e
   ·injection e with e1 _;rw[e1]
 byValue:=fun k v h=>by
  rcases fA h with ⟨i,t,rfl,rfl⟩ | ⟨x,t,rfl,rfl⟩ <;> rfl
 pyHash:=fun hv h=>by
  rcases fA hv with ⟨i,t,rfl,rfl⟩ | ⟨x,t,rfl,rfl⟩
  ·exact wpAny_pyHash_int h
  ·exact wpAny_pyHash_str h
 eqBool:=fun hu hv h=>by
  rcases fA hu with ⟨i,t,rfl,rfl⟩ | ⟨x,t,rfl,rfl⟩
  ·rcases fA hv with ⟨j,u,rfl,rfl⟩ | ⟨y,u,rfl,rfl⟩
   ·rw[aBw] at h;exact wpAny_eqBool_int h
   ·rw[aBv] at h;exact SeqAt.EqAt.int_str i t y u _ _ _ _ h
  ·rcases fA hv with ⟨j,u,rfl,rfl⟩ | ⟨y,u,rfl,rfl⟩
   ·rw[aBu] at h;exact SeqAt.EqAt.str_int x t j u _ _ _ _ h
   ·rw[aBt] at h;exact wpAny_eqBool_str h
 «strs»:=fun k x t v h=>by
  rcases fA h with ⟨i,u,rfl,e⟩ | ⟨y,u,rfl,e⟩
  ·exact nomatch e
  ·injection e with e1 _
   subst e1;cases v <;> rfl
theorem rN(prog:Program)(w:World)(i:Int)(t:Tok):(nJ prog w).is (.inl i) (.int i t)=true:=TQ i t
theorem MB(prog:Program)(w:World)(x:Str)(t:Tok):(nJ prog w).is (.inr x) (.str x t)=true:=TN x t
end L2
namespace L2
open PySem PySem.Spec PyProof.Rows
inductive V where
 | non | bl (b:Bool) | int (i:Int) | str (x:Str) | T9 (b:Array UInt8) | flt (b:UInt64) | ref (a:Addr) | ty (n:String)
 deriving DecidableEq
def RelV:V→Value→Prop
 | .non,u=>u=Value.none
 | .bl b,u=>u=Value.bool b
 | .int i,u=>∃ t,u=Value.int i t
 | .str x,u=>∃ t,u=Value.str x t
 | .T9 b,u=>∃ t,u=Value.bytes b t
 | .flt b,u=>∃ t,u=Value.float b t
 | .ref a,u=>u=Value.ref a
 | .ty n,u=>u=Value.type n
abbrev Vals:List V→List Value→Prop:=Paired RelV
theorem Vals.length{xs:List V}{us:List Value}(r:Vals xs us):xs.length=us.length:=Paired.length r
theorem Vals.get:∀ {xs:List V} {us:List Value} {i:Nat} {x:V},Vals xs us→xs[i]?=some x→∃ u,us[i]?=some u∧RelV x u
 | _,_,_,_,.nil,e=>by simp at e
 | _,_,0,_,.cons r _,e=>by simp at e;subst e;exact⟨_,rfl,r⟩
 | _,_,i+1,x,.cons _ t,e=>by
  refine aA (Vals.get (i:=i) (x:=x) t (by simpa using e)) fun u h1 h2=>?_;exact⟨u,by simpa using h1,h2⟩
theorem Vals.set{x:V}{u:Value}(r:RelV x u):∀ {xs:List V} {us:List Value} (i:Nat),Vals xs us→Vals (xs.set i x) (us.set i u)
 | _,_,_,.nil=> .nil
 | _,_,0,.cons _ t=> .cons r t
 | _,_,i+1,.cons q t=> .cons q (Vals.set r i t)
theorem Vals.append:∀ {xs ys:List V} {us ws:List Value},Vals xs us→Vals ys ws→Vals (xs++ys) (us++ws)
 | _,_,_,_,.nil,s=>s
 | _,_,_,_,.cons r t,s=> .cons r (Vals.append t s)
theorem Vals.take:∀ {xs:List V} {us:List Value} (n:Nat),Vals xs us→Vals (xs.take n) (us.take n)
 | _,_,0,_=> .nil
 | _,_,_+1,.nil=> .nil
 | _,_,n+1,.cons r t=> .cons r (Vals.take n t)
theorem Vals.drop:∀ {xs:List V} {us:List Value} (n:Nat),Vals xs us→Vals (xs.drop n) (us.drop n)
 | _,_,0,r=>r
 | _,_,_+1,.nil=> .nil
 | _,_,n+1,.cons _ t=>Vals.drop n t
def xU:Option V→Option Value→Prop
 | some v,some u=>RelV v u
 | none,none=>True
 | _,_=>False
def KV{κ:Type}:List (κ×V)→List (κ×Value)→Prop:=Paired fun (p:κ×V) (q:κ×Value)=>p.1=q.1∧RelV p.2 q.2
def kV:Key→V
 | .inl i=> .int i
 | .inr x=> .str x
inductive HO where
 | lst (xs:List V)
 | tup (xs:List V)
 | dK (kvs:List (Key×V)) | dT (kvs:List (List Key×V))
 | set (S:Int→Bool) (n:Nat)
 | ins (C dx:Addr) (fs:List (Str×V))
 | own (x:Addr)
 | xd (fs:List (Str×V))
 | met (f x:Addr)
 | rng (lo hi:Int)
 | HD (o:Obj) (u:HO)
 | qA (ps:Array Value)
 | ext (φ:Heap→Prop)
abbrev Hp:=Addr→Option HO
def upd(H:Hp)(a:Addr)(o:HO):Hp:=fun b=>if b=a then some o else H b
theorem a7{H:Hp}{a:Addr}{o:HO}:upd H a o a=some o:=by unfold upd;rw[if_pos rfl]
theorem bF{H:Hp}{a b:Addr}{o:HO}(h:b≠a):upd H a o b=H b:=by unfold upd;rw[if_neg h]
theorem dD{H:Hp}{a:Addr}{o u:HO}:upd (upd H a o) a u=upd H a u:=by
 funext b;unfold upd;split <;> rfl
theorem dR{H:Hp}{a b:Addr}{o:HO}(h:H a=some o)(h':H b=none):a≠b:=by
 intro e;subst e;rw[h] at h';cases h'
section
variable(P:Program)(w:World)
def jH(H:Hp)(h:Heap)(a:Addr):HO→Prop
 | .lst xs=>xs.length≤sizeLine∧∃ (its:List Value) (n:Nat),Vals xs its∧h.get? a=some {cls:= .type "list",data:= .seq its.toArray n}
 | .tup xs=>xs.length≤sizeLine∧∃ its:List Value,Vals xs its∧IsTup h a its.toArray
 | .dK kvs=>kvs.length≤sizeLine∧(a==sysModules)=false∧∃ vs,KV kvs vs∧h.DictOf (nJ P w) a vs
 | .dT kvs=>kvs.length≤sizeLine∧(a==sysModules)=false∧∃ xs:List (List Key×Addr×Value),
   Paired (fun (p:List Key×V) (q:List Key×Addr×Value)=>p.1=q.1∧H q.2.1=some (.tup (p.1.map kV))∧RelV p.2 q.2.2) kvs xs ∧
   ∃ o es ep,h.get? a=some o∧o.ExactDict∧o.data= .dict es ep∧es.toList=xs.map (entryOfKey (tupleKind (nJ P w)))∧(xs.map (·.1)).Nodup
 | .set S n=>h.SetOf (intKind P w) a S n
 | .ins C dx fs=>H dx=some (.own a)∧fs.length≤1000∧dx≠a∧h.get? a=some (W.instObj C dx) ∧
   ∃ mA,h.Ns1 dx mA∧(∀ f,xU (fs.lookup f) (mA f))∧PySem.Within mA (fs.map (·.1))
 | .own _=>∃ o,h.get? a=some o
 | .xd fs=>∃ mA,h.Ns1 a mA∧∀ f,xU (fs.lookup f) (mA f)
 | .rng lo hi=>∃ t u v,h.get? a=some {cls:= .type "range",data:= .fields #[.int lo t,.int hi u,.int 1 v]}
 | .HD o u=>h.get? a=some o∧jH H h a u
 | .qA ps=>h.get? a=some {cls:= .none,data:= .fields ps}
 | .met f x=>h.get? a=some (W.methodObj (.ref f) (.ref x))
 | .ext φ=>φ h∧(∃ o,h.get? a=some o)∧∀ h1 h2:Heap,φ h1→(∀ o,h1.get? a=some o→h2.get? a=some o)→φ h2
def xY(H:Hp)(h:Heap):Prop:=∀ a o,H a=some o→jH P w H h a o
end
section
variable{P:Program}{w:World}{H H':Hp}{h h':Heap}{a:Addr}{o:HO}
theorem jH.lt(x:jH P w H h a o):a<h.objs.size:=by
 cases o with
 | lst xs=>(refine aD x fun _ bO=>?_;refine aH bO fun _ _ _ e=>?_);exact Heap.lt_size e
 | tup xs=>(refine aD x fun _ cA=>?_;refine aA cA fun _ _ p=>?_);exact p.lt
 | dK kvs=>(refine aF x fun _ _ dF=>?_;refine aA dF fun _ _ eX=>?_;refine aP eX fun o _ _ e _=>?_);exact Heap.lt_size e
 | dT kvs=>(refine aF x fun _ _ hE=>?_;refine aA hE fun _ _ p9=>?_;refine aP p9 fun o _ _ e _=>?_);exact Heap.lt_size e
 | set S n=>(refine aE x fun o _ _ AS=>?_;refine aA AS fun _ e _=>?_);exact Heap.lt_size e
 | ins C dx fs=>refine aL x fun _ _ _ e _=>?_;exact Heap.lt_size e
 | own y=>obtain⟨_,e⟩:=x;exact Heap.lt_size e
 | xd fs=>(refine aA x fun _ KJ _=>?_;obtain⟨_,_,_,e,_⟩:=KJ);exact Heap.lt_size e
 | rng lo hi=>refine aE x fun _ _ _ e=>?_;exact Heap.lt_size e
 | HD ob u=>obtain⟨e,_⟩:=x;exact Heap.lt_size e
 | qA ps=>exact Heap.lt_size (show h.get? a=some _ from x)
 | met f y=>exact Heap.lt_size (show h.get? a=some _ from x)
 | ext φ=>(refine aF x fun _ NO _=>?_;obtain⟨_,e⟩:=NO);exact Heap.lt_size e
theorem Paired.aCx{α β:Type}{F G:α→β→Prop}:∀ {l₁:List α} {l₂:List β},Paired F l₁ l₂→(∀ a b,F a b→G a b)→Paired G l₁ l₂
 | _,_,.nil,_=> .nil
 | _,_,.cons r t,f=> .cons (f _ _ r) (Paired.aCx t f)
theorem jH.stay(x:jH P w H h a o)(k:∀ b u,(b=a∨H b=some (.own a))→h.get? b=some u→h'.get? b=some u)
  (ho:∀ b,H b=some (.own a)→H' b=some (.own a)) (ht:∀ b xs,H b=some (.tup xs)→H' b=some (.tup xs)):jH P w H' h' a o:=by
 induction o with
 | lst xs=>(refine aD x fun z bO=>?_;refine aH bO fun its n r e=>?_);exact⟨z,its,n,r,k _ _ (.inl rfl) e⟩
 | tup xs=>(refine aD x fun z cA=>?_;refine aA cA fun its r dF=>?_;refine aA dF fun ob e c=>?_);exact⟨z,its,r,ob,k _ _ (.inl rfl) e,c⟩
 | dK kvs=>(refine aF x fun z y eX=>?_;refine aA eX fun vs r hE=>?_;refine aP hE fun ob es ep e c=>?_);exact⟨z,y,vs,r,ob,es,ep,k _ _ (.inl rfl) e,c⟩
 | dT kvs=>
  (refine aF x fun z y p9=>?_;refine aA p9 fun xs r AS=>?_;refine aP AS fun ob es ep e c=>?_);exact⟨z,y,xs,Paired.aCx r fun p q z=>⟨z.1,ht _ _ z.2.1,z.2.2⟩,ob,es,ep,k _ _ (.inl rfl) e,c⟩
 | set S n=>(refine aE x fun ob es ep KJ=>?_;refine aA KJ fun t e c=>?_);exact⟨ob,es,ep,t,k _ _ (.inl rfl) e,c⟩
 | ins C dx fs=>
  (refine aL x fun d z ne e NO=>?_;refine aA NO fun mA zz9 r=>?_;obtain⟨od,es,ep,e2,c⟩:=zz9);exact⟨ho _ d,z,ne,k _ _ (.inl rfl) e,mA,⟨od,es,ep,k _ _ (.inr d) e2,c⟩,r⟩
 | own y=>obtain⟨ob,e⟩:=x;exact⟨ob,k _ _ (.inl rfl) e⟩
 | xd fs=>(refine aA x fun mA NP r=>?_;obtain⟨od,es,ep,e,c⟩:=NP);exact⟨mA,⟨od,es,ep,k _ _ (.inl rfl) e,c⟩,r⟩
 | rng lo hi=>refine aE x fun t u v e=>?_;exact⟨t,u,v,k _ _ (.inl rfl) e⟩
 | HD ob u ih=>obtain⟨e,q⟩:=x;exact⟨k _ _ (.inl rfl) e,ih q⟩
 | qA ps=>
  have e:h.get? a=some {cls:= .none,data:= .fields ps}:=x;show h'.get? a=some {cls:= .none,data:= .fields ps};exact k a _ (.inl rfl) e
 | met f y=>
  have e:h.get? a=some (W.methodObj (.ref f) (.ref y)):=x;show h'.get? a=some (W.methodObj (.ref f) (.ref y));exact k a _ (.inl rfl) e
 | ext φ=>(refine aF x fun p US st=>?_;obtain⟨o,e⟩:=US);exact⟨st _ _ p fun o q=>k _ _ (.inl rfl) q,⟨o,k _ _ (.inl rfl) e⟩,st⟩
theorem xY.lt(x:xY P w H h)(e:H a=some o):a<h.objs.size:=(x a o e).lt
theorem xY.fresh(x:xY P w H h)(e:h.objs.size≤a):H a=none:=by
 cases q:H a with
 | none=>rfl
 | some u=>exact absurd (aFs (x.lt q) e) (Nat.lt_irrefl _)
theorem xY.kept(x:xY P w H h)(k:∀ b u,h.get? b=some u→h'.get? b=some u):xY P w H h':=fun a o e=>
 (x a o e).stay (fun b u _ q=>k b u q) (fun _ q=>q) fun _ _ q=>q
theorem xY.laid(x:xY P w H h)(k:∀ b u,h.get? b=some u→h'.get? b=some u)(hp:h.objs.size≤a)(new:jH P w (upd H a o) h' a o):xY P w (upd H a o) h':=fun b u e=>by
 have hn:=x.fresh hp;by_cases hb:b=a
 ·subst hb;rw[a7] at e;cases e;exact new
 ·rw[bF hb] at e;exact(x b u e).stay (fun c v _ q=>k c v q) (fun c q=>by rw[bF (dR q hn)];exact q) fun c xs q=>by rw[bF (dR q hn)];exact q
end
def Rd(H:Hp)(a:Addr)(u:HO):Prop:=H a=some u∨∃ o,H a=some (.HD o u)
theorem Rd.ok{P:Program}{w:World}{H:Hp}{h:Heap}{a:Addr}{u:HO}(r:Rd H a u)(x:xY P w H h):jH P w H h a u:=by
 rcases r with r | ⟨o,r⟩
 ·exact x a u r
 ·obtain⟨_,q⟩:=x a _ r;exact q
def Mut:Option HO→Prop
 | some (.lst _)=>True
 | some (.dK _)=>True
 | some (.dT _)=>True
 | some (.set _ _)=>True
 | some (.ins _ _ _)=>True
 | some (.ext _)=>True
 | _=>False
section
variable{P:Program}{w:World}{H:Hp}{h h':Heap}{x e:Addr}{o':HO}
theorem xY.write(ok:xY P w H h)(mu:Mut (H x))(he:e=x∨H e=some (.own x))(k:∀ b u,b≠e→h.get? b=some u→h'.get? b=some u)(heo:∃ u,h'.get? e=some u)
  (new:jH P w (upd H x o') h' x o'):xY P w (upd H x o') h':=fun b u q=>by
 have aCw:∀ c y,H c=some (.own y)→c≠x:=fun c y r z=>by subst z;rw[r] at mu;exact mu
 have aDQ:∀ c xs,H c=some (.tup xs)→c≠x:=fun c xs r z=>by subst z;rw[r] at mu;exact mu
 by_cases hb:b=x
 ·subst hb;rw[a7] at q;cases q;exact new
 ·rw[bF hb] at q;by_cases hbe:b=e
  ·have q':H b=some (.own x):=by
    rcases he with z | z
    ·exact absurd (hbe.trans z) hb
    ·rw[hbe];exact z
   rw[q] at q';cases q';obtain⟨v,hv⟩:=heo;exact⟨v,by rw[hbe];exact hv⟩
  ·refine(ok b u q).stay (fun c v hc r=>k c v ?_ r) (fun c r=>by rw[bF (aCw c b r)];exact r) fun c xs r=>by rw[bF (aDQ c xs r)];exact r
   rcases hc with rfl | hc
   ·exact hbe
   ·rintro rfl;rcases he with z | z
    ·exact aCw c b hc z
    ·rw[hc] at z;cases z;exact hb rfl
end
structure Un(fs ex:List Addr)(H H':Hp)(h h':Heap):Prop where
 keep:∀ b o,h.get? b=some o→H b=none→b∉fs→b∉ex→h'.get? b=some o
 slot:∀ b o,h.get? b=some o→H b=none→b∈fs→b∉ex→∃ sl,h'.get? b=some {o with slots:=sl}
 free:∀ b o,h.get? b=some o→H b=none→b∉ex→H' b=none
 there:∀ b o,h.get? b=some o→b∉ex→∃ o',h'.get? b=some o'
 tups:∀ b xs,H b=some (.tup xs)→H' b=some (.tup xs)
 FQ:∀ b o u,H b=some (.HD o u)→H' b=some (.HD o u)
 E3:∀ b ps,H b=some (.qA ps)→∃ more,H' b=some (.qA (ps++more))
section
variable{fs fs' ex ex':List Addr}{H H1 H2:Hp}{h h1 h2 h':Heap}{a x e:Addr}{o:HO}
theorem Un.any(u:Un fs ex H H1 h h1){b:Addr}{ob:Obj}(q:h.get? b=some ob)(n:H b=none)(hx:b∉ex):∃ sl,h1.get? b=some {ob with slots:=sl}:=by
 by_cases hb:b∈fs
 ·exact u.slot b ob q n hb hx
 ·exact⟨ob.slots,u.keep b ob q n hb hx⟩
theorem Un.kept(k:∀ b u,h.get? b=some u→h'.get? b=some u):Un fs ex H H h h':=
 ⟨fun b ob q _ _ _=>k b ob q,fun b ob q _ _ _=>⟨ob.slots,k b ob q⟩,fun _ _ _ n _=>n,fun b ob q _=>⟨ob,k b ob q⟩,fun _ _ q=>q,fun _ _ _ q=>q,fun _ ps q=>⟨#[],by rw[q];simp⟩⟩
theorem Un.refl:Un fs ex H H h h:=Un.kept fun _ _ q=>q
theorem Un.laid(k:∀ b u,h.get? b=some u→h'.get? b=some u)(hp:h.objs.size≤a)(hn:H a=none):Un fs ex H (upd H a o) h h' where
 keep:=fun b u q _ _ _=>k b u q
 slot:=fun b u q _ _ _=>⟨u.slots,k b u q⟩
 free:=fun b u q n _=>by rw[bF (Nat.ne_of_lt (aFs (Heap.lt_size q) hp))];exact n
 there:=fun b u q _=>⟨u,k b u q⟩
 tups:=fun b xs q=>by rw[bF (dR q hn)];exact q
 FQ:=fun b u xs q=>by rw[bF (dR q hn)];exact q
 E3:=fun b ps q=>⟨#[],by rw[bF (dR q hn),q];simp⟩
theorem Un.write(mu:Mut (H x))(he:e=x∨H e=some (.own x))(k:∀ b u,b≠e→h.get? b=some u→h'.get? b=some u)(heo:∃ u,h'.get? e=some u):Un fs ex H (upd H x o) h h':=by
 have hx:∀ b,H b=none→b≠x:=fun b n z=>by subst z;rw[n] at mu;exact mu
 have hb:∀ b,H b=none→b≠e:=fun b n z=>by
  subst z;rcases he with r | r
  ·exact hx b n r
  ·rw[n] at r;cases r
 have hm:∀ b u,H b=some u→¬Mut (some u)→b≠x:=fun b u q nm z=>by subst z;rw[q] at mu;exact nm mu
 refine⟨fun b u q n _ _=>k b u (hb b n) q,fun b u q n _ _=>⟨u.slots,k b u (hb b n) q⟩,fun b u q n _=>by rw[bF (hx b n)];exact n,fun b u q _=>?_,
  fun b xs q=>by rw[bF (hm b _ q fun z=>z)];exact q,fun b u xs q=>by rw[bF (hm b _ q fun z=>z)];exact q,fun b ps q=>⟨#[],by rw[bF (hm b _ q fun z=>z),q];simp⟩⟩
 by_cases hbe:b=e
 ·subst hbe;exact heo
 ·exact⟨u,k b u hbe q⟩
end
def trk(h:Heap)(H:Hp):List Addr:=(List.range h.objs.size).filter fun a=>(H a).isSome
def FP(h:Heap)(H:Hp):Heap:=W.hideAll h (trk h H)
theorem TX(h:Heap)(H:Hp):(FP h H).objs.size=h.objs.size:=W.hideAll_size _ _
theorem WU{h:Heap}{H:Hp}{b:Addr}{o:Obj}(e:h.get? b=some o)(n:H b=none):(FP h H).get? b=some o:=
 W.hideAll_get _ e fun hm=>by
  have q:(H b).isSome=true:=(List.mem_filter.mp hm).2;rw[n] at q;simp at q
theorem Y5{h:Heap}{H:Hp}{b:Addr}{o:Obj}(e:(FP h H).get? b=some o):h.get? b=some o∧H b=none:=by
 have e':h.get? b=some o:=W.of_hideAll (trk h H) e;refine⟨e',?_⟩
 cases q:H b with
 | none=>rfl
 | some x=>
  have hm:b∈trk h H:=List.mem_filter.mpr ⟨List.mem_range.mpr (Heap.lt_size e'),by simp [q]⟩;have z:(FP h H).get? b=none:=W.hideAll_none (trk h H) hm;rw[z] at e;cases e
end L2
namespace L2
open PySem PySem.Spec PyProof.Rows
structure Mod(K:W.Frag)(mg:Str→Option Value)(base:Heap):Prop where
 kin:K.In base
 glob:base.Ns mainGlobals mg
 blt:∃ mb,base.Ns builtinsNs mb∧∀ x:Str,x≠"__name__"→mb x=bootBuiltins x
 nolimit:base.NoLimit
structure Cx where
 prog:Program
 w:World
 K:W.Frag
 mg:Str→Option Value
 base:Heap
 A:Around
 N:List Str
 s_0:Shared
 H_0:Hp
 env:Env
 outer:List Env
 stack:List Env
 ex:List Addr
 fn:Str→Bool
 calm:Bool
 pn:List (Addr×Obj)
 xe:Value→Shared→Prop
def frs(l:List Env):List Addr:=l.filterMap (·.frame)
abbrev Cx.fs(X:Cx):List Addr:=frs X.outer
def Vis(sc:Scope)(x:Str):Prop:=sc.names.lookup x=some .local∨sc.names.lookup x=some .cell∨sc.names.lookup x=some .free
def Loc(sc:Scope)(x:Str):Prop:=sc.names.lookup x=some .local∨sc.names.lookup x=some .cell
def Look(env:Env)(h:Heap)(m:Str→Option Value)(x:Str)(u:Value):Prop:=
 (env.kindOf x=some .local∧m x=some u)∨((env.kindOf x=some .cell∨env.kindOf x=some .free)∧∃ c,env.cells.lookup x=some c∧h.IsCell c (some u))
structure Cx.Ok(X:Cx):Prop where
 mod:Mod X.K X.mg X.base
 kind:X.env.scope.kind= .function
 glob:X.env.globals=mainGlobals
 blt:X.env.builtins=builtinsNs
 above:X.s_0.heap.objs.size≤X.env.locals
 inj:∀ x y c,X.env.cells.lookup x=some c→X.env.cells.lookup y=some c→x=y
 has:∀ x,(X.env.kindOf x=some .cell∨X.env.kindOf x=some .free)→∃ c,X.env.cells.lookup x=some c
 cab:∀ x c,X.fn x=true→X.env.cells.lookup x=some c→X.s_0.heap.objs.size≤c
 hd:X.calm=true→X.A.handled=none
 frames:X.A.frames=some X.stack
 stk:X.stack=X.outer∨(X.stack=X.env::X.outer∧X.env.frame=some X.env.locals)
 exf:∀ b∈X.ex,b≠X.env.locals∧∀ x c,X.env.cells.lookup x=some c→c≠b
 bs:∀ b o,X.base.get? b=some o→X.s_0.heap.get? b=some o∧X.H_0 b=none
 XJ:X.base.objs.size≤X.s_0.heap.objs.size
 V4:∀ b o,X.base.get? b=some o→b∉X.ex
 W6:∀ b∈X.ex,b∉X.fs
 xH:X.s_0.heap.FunFrames X.base X.outer
 frf:∀ b∈X.fs,X.H_0 b=none
structure Inv(X:Cx)(pins:List (Addr×Obj))(σ:List (Option V))(H:Hp)(s:Shared):Prop where
 ok:X.Ok
 os:s.os=X.s_0.os
 bare:AllBare s.gens
 base:Un X.fs X.ex X.H_0 H X.s_0.heap s.heap
 loc:∃ m,s.heap.Ns X.env.locals m∧∀ (i:Nat) (x:Str) (v:V),X.N[i]?=some x→σ[i]?=some (some v)→Vis X.env.scope x→∃ u,RelV v u∧Look X.env s.heap m x u
 cell:∀ x c,X.env.cells.lookup x=some c→∃ v,s.heap.IsCell c v
 free:H X.env.locals=none
 p8:∀ x c,X.env.cells.lookup x=some c→H c=none
 pin:∀ p∈X.pn++pins,s.heap.get? p.1=some p.2∧H p.1=none∧p.1≠X.env.locals∧p.1∉X.fs∧∀ v,p.2.data≠.cell v
 hok:xY X.prog X.w H s.heap
 len:σ.length=X.N.length
section
variable{X:Cx}{pins:List (Addr×Obj)}{σ:List (Option V)}{H H':Hp}{s:Shared}{h':Heap}
theorem Cx.Ok.aDS(ok:X.Ok){b:Addr}{o:Obj}(e:X.base.get? b=some o):b∉X.fs:=fun hb=>by
 have:=(ok.xH.mem hb).1;rw[e] at this;cases this
theorem Inv.bs(I:Inv X pins σ H s):∀ b o,X.base.get? b=some o→s.heap.get? b=some o∧H b=none:=fun b o e=>
 ⟨I.base.keep b o (I.ok.bs b o e).1 (I.ok.bs b o e).2 (I.ok.aDS e) (I.ok.V4 b o e),I.base.free b o (I.ok.bs b o e).1 (I.ok.bs b o e).2 (I.ok.V4 b o e)⟩
theorem Inv.bk(I:Inv X pins σ H s):∀ b o,X.base.get? b=some o→s.heap.get? b=some o:=fun b o e=>(I.bs b o e).1
theorem Inv.mod(I:Inv X pins σ H s):Mod X.K X.mg X.base:=I.ok.mod
theorem Inv.D3(I:Inv X pins σ H s):X.K.In s.heap:=I.ok.mod.kin.keeps I.bk
theorem Inv.fr(I:Inv X pins σ H s):∃ m,Fr X.base X.env.locals s.heap m:=
 let ⟨m,hn,_⟩:=I.loc
 ⟨m,hn,I.bk,aFt I.ok.XJ I.ok.above⟩
theorem Inv.lt(I:Inv X pins σ H s):X.env.locals<s.heap.objs.size:=let ⟨_,hn,_⟩:=I.loc;hn.lt
theorem Inv.sz(I:Inv X pins σ H s):X.s_0.heap.objs.size≤s.heap.objs.size:=aFt I.ok.above (Nat.le_of_lt I.lt)
theorem Inv.aDR(I:Inv X pins σ H s){a:Addr}(h:s.heap.objs.size≤a):a∉X.fs:=fun hb=>by
 (refine aD (I.ok.xH.mem hb) fun _ bO=>?_;refine aA bO fun o ho _=>?_);exact absurd (aFs (Heap.lt_size ho) (aFt I.sz h)) (Nat.lt_irrefl _)
theorem Inv.cne(I:Inv X pins σ H s):∀ x c,X.env.cells.lookup x=some c→c≠X.env.locals:=fun x c e z=>by
 refine aH (I.cell x c e) fun v o ho hd=>?_;(refine aA I.loc fun m bO _=>?_;obtain⟨o',es,ep,ho',hd',_⟩:=bO);rw[z,ho'] at ho;cases ho;rw[hd'] at hd;cases hd
theorem Inv.xH(I:Inv X pins σ H s):s.heap.FunFrames X.base X.outer:=by
 have all:∀ (l:List Env),(∀ b∈frs l,b∈X.fs)→X.s_0.heap.FunFrames X.base l→s.heap.FunFrames X.base l:=by
  intro l
  induction l with
  | nil=>intro _ _;trivial
  | cons env r ih=>
   intro hs hl;(refine aF hl fun hk bO hr=>?_;obtain⟨L,o,hf,hn,ho,hd⟩:=bO);have hL:L∈X.fs:=hs L (by unfold frs;rw[List.filterMap_cons,hf];exact aFh);obtain⟨sl,e⟩:=I.base.slot L o ho (I.ok.frf L hL) hL fun z=>I.ok.W6 L z hL;exact⟨hk,⟨L,_,hf,hn,e,hd⟩,ih (fun b hb=>hs b (by unfold frs;rw[List.filterMap_cons,hf];exact aFk _ hb)) hr⟩
 exact all X.outer (fun _ hb=>hb) I.ok.xH
theorem Inv.stack(I:Inv X pins σ H s):s.heap.FunFrames X.base X.stack:=by
 rcases I.ok.stk with e | ⟨e,hf⟩
 ·rw[e];exact I.xH
 ·rw[e];refine aA I.loc fun m hn _=>?_;refine .cons (by rw[I.ok.kind];decide) hf hn ?_ I.xH;exact Heap.get?_none_of_le (aFt I.ok.XJ I.ok.above)
theorem Inv.IC(I:Inv X pins σ H s):∀ b∈frs X.stack,b∈X.env.locals::X.fs:=fun b hb=>by
 rcases I.ok.stk with e | ⟨e,hf⟩
 ·rw[e] at hb;exact aFk _ hb
 ·rw[e] at hb;unfold frs at hb;rw[List.filterMap_cons,hf] at hb;exact hb
theorem Inv.BA(I:Inv X pins σ H s):∀ b∈frs X.stack,H b=none:=fun b hb=>by
 rcases aEZ.mp (I.IC b hb) with e | hb
 ·rw[e];exact I.free
 ·(refine aD (I.ok.xH.mem hb) fun _ bO=>?_;refine aA bO fun o ho _=>?_);exact I.base.free b o ho (I.ok.frf b hb) fun z=>I.ok.W6 b z hb
theorem Inv.step{g':Array GenState}{t':Nat}{d':Drawn}{ch:List Addr}(I:Inv X pins σ H s)
  (hch:∀ b∈ch,(b∈X.ex∨X.s_0.heap.objs.size≤b)∧b≠X.env.locals∧(∀ x c,X.env.cells.lookup x=some c→c≠b)∧∀ p∈X.pn++pins,p.1≠b)
  (keep:∀ b o,b≠X.env.locals→b∉X.fs→b∉ch→s.heap.get? b=some o→H b=none→h'.get? b=some o)
  (slot:∀ b o,b≠X.env.locals→b∈X.fs→b∉ch→s.heap.get? b=some o→H b=none→∃ sl,h'.get? b=some {o with slots:=sl}) (free:∀ b o,b∉ch→s.heap.get? b=some o→H b=none→H' b=none)
  (there:∀ b o,b∉ch→s.heap.get? b=some o→∃ o',h'.get? b=some o')
  (tups:∀ b xs,H b=some (.tup xs)→H' b=some (.tup xs)) (FQ:∀ b o u,H b=some (.HD o u)→H' b=some (.HD o u)) (E3:∀ b ps,H b=some (.qA ps)→∃ more,H' b=some (.qA (ps++more)))
  (ns:∀ m,s.heap.Ns X.env.locals m→h'.Ns X.env.locals m) (hok:xY X.prog X.w H' h') (hg:AllBare g'):
  Inv X pins σ H' {s with heap:=h',gens:=g',drawn:=d',toks:=t'}:=by
 have neL:∀ b o,X.s_0.heap.get? b=some o→b≠X.env.locals:=fun b o e=>Nat.ne_of_lt (aFs (Heap.lt_size e) I.ok.above);have neC:∀ b o,X.s_0.heap.get? b=some o→b∉X.ex→b∉ch:=fun b o e hx hb=>by
  rcases (hch b hb).1 with z | z
  ·exact hx z
  ·exact absurd (aFs (Heap.lt_size e) z) (Nat.lt_irrefl _)
 have cellK:∀ x c,X.env.cells.lookup x=some c→∀ v,s.heap.IsCell c v→h'.IsCell c v:=fun x c e v bO=>aA bO fun o ho hd=>by
  have nch:c∉ch:=fun z=>(hch c z).2.2.1 x c e rfl;by_cases hc:c∈X.fs
  ·obtain⟨sl,q⟩:=slot c o (I.cne x c e) hc nch ho (I.p8 x c e);exact⟨_,q,hd⟩
  ·exact⟨o,keep c o (I.cne x c e) hc nch ho (I.p8 x c e),hd⟩
 refine⟨I.ok,I.os,hg,⟨fun b o e n hb hx=>?_,fun b o e n hb hx=>?_,fun b o e n hx=>?_,fun b o e hx=>?_,fun b xs e=>tups b xs (I.base.tups b xs e),fun b o xs e=>FQ b o xs (I.base.FQ b o xs e),fun b ps e=>?_⟩,?_,fun x c e=>?_,?_,fun x c e=>?_,fun p hp=>?_,hok,I.len⟩
 ·exact keep b o (neL b o e) hb (neC b o e hx) (I.base.keep b o e n hb hx) (I.base.free b o e n hx)
 ·obtain⟨sl,e1⟩:=I.base.slot b o e n hb hx;obtain⟨sl',e2⟩:=slot b _ (neL b o e) hb (neC b o e hx) e1 (I.base.free b o e n hx);exact⟨sl',e2⟩
 ·obtain⟨o',e1⟩:=I.base.there b o e hx;exact free b o' (neC b o e hx) e1 (I.base.free b o e n hx)
 ·obtain⟨o',e1⟩:=I.base.there b o e hx;exact there b o' (neC b o e hx) e1
 ·obtain⟨m1,e1⟩:=I.base.E3 b ps e;obtain⟨m2,e2⟩:=E3 b _ e1;exact⟨m1++m2,by rw[e2,Array.append_assoc]⟩
 ·refine aA I.loc fun m hn hl=>?_;refine⟨m,ns m hn,fun i x v e1 e2 e3=>?_⟩;refine aA (hl i x v e1 e2 e3) fun u r l=>?_;refine⟨u,r,?_⟩;rcases l with l | ⟨k,c,e,z⟩
  ·exact .inl l
  ·exact .inr ⟨k,c,e,cellK x c e _ z⟩
 ·obtain⟨v,z⟩:=I.cell x c e;exact⟨v,cellK x c e v z⟩
 ·(refine aA I.loc fun m cA _=>?_;obtain⟨o,_,_,ho,_⟩:=cA);exact free _ o (fun z=>(hch _ z).2.1 rfl) ho I.free
 ·refine aH (I.cell x c e) fun v o ho hd=>?_;exact free c o (fun z=>(hch c z).2.2.1 x c e rfl) ho (I.p8 x c e)
 ·refine aL (I.pin p hp) fun e n ne nf d=>?_;have nch:p.1∉ch:=fun z=>(hch p.1 z).2.2.2 p hp rfl;exact⟨keep p.1 p.2 ne nf nch e n,free p.1 p.2 nch e n,ne,nf,d⟩
theorem Inv.un{t':Nat}(I:Inv X pins σ H s)(u:Un X.fs [] H H' s.heap h')(hok:xY X.prog X.w H' h'):Inv X pins σ H' {s with heap:=h',toks:=t'}:=by
 (refine aA (id I.loc) fun m bO _=>?_;obtain⟨o,es,ep,ho,r⟩:=bO);obtain⟨sl,hL⟩:=u.any ho I.free (by simp);exact I.step (g':=s.gens) (d':=s.drawn) (ch:=[]) (fun _ z=>nomatch z) (fun b o _ hb _ e n=>u.keep b o e n hb (by simp)) (fun b o _ hb _ e n=>u.slot b o e n hb (by simp)) (fun b o _ e n=>u.free b o e n (by simp)) (fun b o _ e=>u.there b o e (by simp)) u.tups u.FQ u.E3 (fun m' hm=>by
  refine aP hm fun o' es' ep' ho' r'=>?_;rw[ho] at ho';cases ho';exact⟨_,es',ep',hL,r'⟩) hok I.bare
theorem Inv.call{g':Array GenState}{t':Nat}{d':Drawn}{ch:List Addr}(I:Inv X pins σ H s)(u:Un (frs X.stack) ch H H' s.heap h')(hok:xY X.prog X.w H' h')(hg:AllBare g')
  (hch:∀ b∈ch,(b∈X.ex∨X.s_0.heap.objs.size≤b)∧b≠X.env.locals∧(∀ x c,X.env.cells.lookup x=some c→c≠b)∧∀ p∈X.pn++pins,p.1≠b):
  Inv X pins σ H' {s with heap:=h',gens:=g',drawn:=d',toks:=t'}:=by
 (refine aA (id I.loc) fun m bO _=>?_;obtain⟨o,es,ep,ho,r⟩:=bO);obtain⟨sl,hL⟩:=u.any ho I.free fun z=>(hch _ z).2.1 rfl;exact I.step (ch:=ch) hch (fun b o hL hb hc e n=>u.keep b o e n (fun z=>(aEZ.mp (I.IC b z)).elim hL hb) hc) (fun b o _ _ hc e n=>u.any e n hc) (fun b o hc e n=>u.free b o e n hc) (fun b o hc e=>u.there b o e hc) u.tups u.FQ u.E3 (fun m' hm=>by
  refine aP hm fun o' es' ep' ho' r'=>?_;rw[ho] at ho';cases ho';exact⟨_,es',ep',hL,r'⟩) hok hg
theorem Inv.turned{t':Nat}{it:Addr}(I:Inv X pins σ H s)(k:∀ b o,b≠it→s.heap.get? b=some o→h'.get? b=some o)(hn:H it=none)(hL:it≠X.env.locals)
  (h1:it∈X.ex∨X.s_0.heap.objs.size≤it) (h2:∀ x c,X.env.cells.lookup x=some c→c≠it) (h3:∀ p∈X.pn++pins,p.1≠it):Inv X pins σ H {s with heap:=h',toks:=t'}:=by
 have nit:∀ b u,H b=some u→b≠it:=fun b u e z=>by rw[z,hn] at e;cases e
 refine I.step (g':=s.gens) (d':=s.drawn) (ch:=[it]) (fun b hb=>?_) (fun b o _ _ hc e _=>k b o (fun z=>hc (by simp [z])) e) (fun b o _ _ hc e _=>⟨o.slots,k b o (fun z=>hc (by simp [z])) e⟩) (fun _ _ _ _ n=>n)
  (fun b o hc e=>⟨o,k b o (fun z=>hc (by simp [z])) e⟩) (fun _ _ e=>e) (fun _ _ _ e=>e) (fun b ps e=>⟨#[],by rw[e];simp⟩) (fun m hm=>?_) (fun b u e=>?_) I.bare
 ·have e:b=it:=by simpa using hb
  subst e;exact⟨h1,hL,h2,h3⟩
 ·refine aP hm fun o es ep ho r=>?_;exact⟨o,es,ep,k _ o (Ne.symm hL) ho,r⟩
 ·refine(I.hok b u e).stay (fun c v hc q=>k c v ?_ q) (fun _ q=>q) fun _ _ q=>q;rcases hc with z | z
  ·rw[z];exact nit b u e
  ·exact nit c _ z
theorem Inv.tok(I:Inv X pins σ H s)(t:Nat):Inv X pins σ H {s with toks:=t}:=I.un (h':=s.heap) (t':=t) Un.refl I.hok
theorem Inv.kept{t':Nat}(I:Inv X pins σ H s)(k:∀ b u,s.heap.get? b=some u→h'.get? b=some u):Inv X pins σ H {s with heap:=h',toks:=t'}:=I.un (Un.kept k) (I.hok.kept k)
theorem Inv.laid{a:Addr}{o:HO}{t':Nat}(I:Inv X pins σ H s)(k:∀ b u,s.heap.get? b=some u→h'.get? b=some u)(hp:s.heap.objs.size≤a)(new:jH X.prog X.w (upd H a o) h' a o):
  Inv X pins σ (upd H a o) {s with heap:=h',toks:=t'}:=I.un (Un.laid k hp (I.hok.fresh hp)) (I.hok.laid k hp new)
theorem Inv.write{x e:Addr}{o:HO}{t':Nat}(I:Inv X pins σ H s)(mu:Mut (H x))(he:e=x∨H e=some (.own x))(k:∀ b u,b≠e→s.heap.get? b=some u→h'.get? b=some u)(heo:∃ u,h'.get? e=some u)
  (new:jH X.prog X.w (upd H x o) h' x o):Inv X pins σ (upd H x o) {s with heap:=h',toks:=t'}:=I.un (Un.write mu he k heo) (I.hok.write mu he k heo new)
theorem Inv.weak{σ':List (Option V)}(I:Inv X pins σ H s)(hl:σ'.length=σ.length)(w:∀ (i:Nat) v,σ'[i]?=some (some v)→σ[i]?=some (some v)):Inv X pins σ' H s:=
 ⟨I.ok,I.os,I.bare,I.base,let ⟨m,hn,hl'⟩:=I.loc;⟨m,hn,fun i x v e1 e2 e3=>hl' i x v e1 (w i v e2) e3⟩,I.cell,I.free,I.p8,I.pin,I.hok,hl.trans I.len⟩
theorem Inv.Q1{aAq:List (Addr×Obj)}(I:Inv X pins σ H s)(h:∀ p∈aAq,s.heap.get? p.1=some p.2∧H p.1=none∧p.1≠X.env.locals∧p.1∉X.fs∧∀ v,p.2.data≠.cell v):Inv X aAq σ H s:=
 ⟨I.ok,I.os,I.bare,I.base,I.loc,I.cell,I.free,I.p8,fun p hp=>(List.mem_append.mp hp).elim (fun z=>I.pin p (List.mem_append_left _ z)) (h p),I.hok,I.len⟩
theorem DR{N:List Str}(hN:N.Nodup){i j:Nat}{x:Str}(a:N[i]?=some x)(b:N[j]?=some x):i=j:=by
 obtain⟨h1,e1⟩:=aFQ.mp a;obtain⟨h2,e2⟩:=aFQ.mp b;exact(List.getElem_inj hN).mp (e1.trans e2.symm)
theorem GA{M:Model}{A:Around}{E:Value→Shared→Prop}{i:Nat}{x:Str}{v:V}{u:Value}{Q:Unit→Shared→Prop}(I:Inv X pins σ H s)(hN:X.N.Nodup)(hi:X.N[i]?=some x)(hx:Loc X.env.scope x)(r:RelV v u)
  (h:∀ s',Inv X pins (σ.set i (some v)) H s'→(∃ a,Heap.SameBut a s.heap s'.heap∧(a=X.env.locals∨X.env.cells.lookup x=some a))→Q () s') (hf:X.fn x=true∨X.env.scope.names.lookup x=some .local:=by first | exact .inl rfl | exact .inr rfl | assumption):wpAny M A (storeName X.env x u) Q E s:=by
 refine aA (id I.loc) fun m hn hl=>?_;have hcls:(X.env.scope.kind== .class||(X.env.scope.kind== .module&&X.env.locals !=X.env.globals))=false:=by rw[I.ok.kind];rfl
 have hiσ:i<σ.length:=by rw[I.len];exact(aFQ.mp hi).1
 have cne:=I.cne;have tracked:∀ {a:Addr} {h':Heap},(∃ o,s.heap.get? a=some o∧H a=none)→Heap.SameBut a s.heap h'→xY X.prog X.w H h':=fun {a h'} ha hs b ob e=>by
  refine aA ha fun _ _ hfree=>?_;refine(I.hok b ob e).stay (fun c w' hc q=>(hs.2 c ?_).trans q) (fun _ q=>q) fun _ _ q=>q;rintro rfl;rcases hc with rfl | hc
  ·rw[hfree] at e;cases e
  ·rw[hfree] at hc;cases hc
 rcases hx with hk | hk
 ·refine wpAny_storeName_local hk hn (fun h' hn' hs=>?_) hcls;refine aP (id hn) fun oL _ _ hoL _=>?_;refine h _ ⟨I.ok,I.os,I.bare,⟨fun b o e n hb hx=>?_,fun b o e n hb hx=>?_,I.base.free,fun b o e hx=>?_,I.base.tups,I.base.FQ,I.base.E3⟩,⟨_,hn',fun j y v' e1 e2 e3=>?_⟩,fun y c e=>?_,I.free,I.p8,fun p hp=>?_,tracked ⟨oL,hoL,I.free⟩ hs,by simpa using I.len⟩ ⟨_,hs,.inl rfl⟩
  ·exact(hs.2 b (Nat.ne_of_lt (aFs (Heap.lt_size e) I.ok.above))).trans (I.base.keep b o e n hb hx)
  ·obtain⟨sl,e1⟩:=I.base.slot b o e n hb hx;exact⟨sl,(hs.2 b (Nat.ne_of_lt (aFs (Heap.lt_size e) I.ok.above))).trans e1⟩
  ·obtain⟨o',e1⟩:=I.base.there b o e hx;exact⟨o',(hs.2 b (Nat.ne_of_lt (aFs (Heap.lt_size e) I.ok.above))).trans e1⟩
  ·by_cases hj:j=i
   ·subst hj;rw[hi] at e1;cases e1;rw[List.getElem?_set_self hiσ] at e2;cases e2;exact⟨u,r,.inl ⟨hk,by simp⟩⟩
   ·rw[List.getElem?_set_ne (Ne.symm hj)] at e2;refine aA (hl j y v' e1 e2 e3) fun u' r' q=>?_;refine⟨u',r',?_⟩;rcases q with ⟨k,e⟩ | ⟨k,c,e,z⟩
    ·refine .inl ⟨k,?_⟩;have:y≠x:=fun e=>hj (DR hN e1 (e ▸ hi));simp [this,e]
    ·exact .inr ⟨k,c,e,z.sameBut hs (cne y c e)⟩
  ·obtain⟨w',z⟩:=I.cell y c e;exact⟨w',z.sameBut hs (cne y c e)⟩
  ·refine aL (I.pin p hp) fun e n ne nf d=>?_;exact⟨(hs.2 p.1 ne).trans e,n,ne,nf,d⟩
 ·have hfn:X.fn x=true:=by
   rcases hf with z | z
   ·exact z
   ·rw[z] at hk;cases hk
  obtain⟨c,hc⟩:=I.ok.has x (.inl hk);obtain⟨w',z⟩:=I.cell x c hc;refine wpAny_storeName_cell I.ok.kind hk hc z (fun h' hc' hs=>?_);refine aA (id z) fun oc hoc aEo=>?_;refine h {s with heap:=h'} ⟨I.ok,I.os,I.bare,⟨fun b o e n hb hx=>?_,fun b o e n hb hx=>?_,I.base.free,fun b o e hx=>?_,I.base.tups,I.base.FQ,I.base.E3⟩,⟨m,hn.sameBut hs (Ne.symm (cne x c hc)),fun j y v' e1 e2 e3=>?_⟩,fun y c' e=>?_,I.free,I.p8,fun p hp=>?_,tracked ⟨oc,hoc,I.p8 x c hc⟩ hs,by simpa using I.len⟩ ⟨c,hs,.inr hc⟩
  ·exact(hs.2 b (Nat.ne_of_lt (aFs (Heap.lt_size e) (I.ok.cab x c hfn hc)))).trans (I.base.keep b o e n hb hx)
  ·obtain⟨sl,e1⟩:=I.base.slot b o e n hb hx;exact⟨sl,(hs.2 b (Nat.ne_of_lt (aFs (Heap.lt_size e) (I.ok.cab x c hfn hc)))).trans e1⟩
  ·obtain⟨o',e1⟩:=I.base.there b o e hx;exact⟨o',(hs.2 b (Nat.ne_of_lt (aFs (Heap.lt_size e) (I.ok.cab x c hfn hc)))).trans e1⟩
  ·by_cases hj:j=i
   ·subst hj;rw[hi] at e1;cases e1;rw[List.getElem?_set_self hiσ] at e2;cases e2;exact⟨u,r,.inr ⟨.inl hk,c,hc,hc'⟩⟩
   ·rw[List.getElem?_set_ne (Ne.symm hj)] at e2;refine aA (hl j y v' e1 e2 e3) fun u' r' q=>?_;refine⟨u',r',?_⟩;rcases q with q | ⟨k,c',e,z'⟩
    ·exact .inl q
    ·refine .inr ⟨k,c',e,z'.sameBut hs ?_⟩;rintro rfl;exact hj (DR hN e1 (I.ok.inj _ _ _ e hc ▸ hi))
  ·by_cases hcc:c'=c
   ·subst hcc;exact⟨_,hc'⟩
   ·obtain⟨w2,z2⟩:=I.cell y c' e;exact⟨w2,z2.sameBut hs hcc⟩
  ·refine aL (I.pin p hp) fun e n ne nf d=>?_;refine⟨(hs.2 p.1 ?_).trans e,n,ne,nf,d⟩;intro q;rw[q,hoc] at e;have q':oc=p.2:=aFa e;exact d w' (by rw[←q'];exact aEo)
theorem B1{M:Model}{A:Around}{E:Value→Shared→Prop}{i:Nat}{x:Str}{v:V}{u:Value}{Q:Unit→Shared→Prop}(I:Inv X pins σ H s)(hN:X.N.Nodup)(hi:X.N[i]?=some x)(hx:Loc X.env.scope x)(r:RelV v u)
  (h:∀ s',Inv X pins (σ.set i (some v)) H s'→Q () s') (hf:X.fn x=true∨X.env.scope.names.lookup x=some .local:=by first | exact .inl rfl | exact .inr rfl | assumption):wpAny M A (storeName X.env x u) Q E s:=
 GA I hN hi hx r (fun s' I' _=>h s' I') hf
theorem Inv.call'{s':Shared}{ch:List Addr}(I:Inv X pins σ H s)(ho:s'.os=s.os)(u:Un (frs X.stack) ch H H' s.heap s'.heap)(hok:xY X.prog X.w H' s'.heap)(hg:AllBare s'.gens)
  (hch:∀ b∈ch,(b∈X.ex∨X.s_0.heap.objs.size≤b)∧b≠X.env.locals∧(∀ x c,X.env.cells.lookup x=some c→c≠b)∧∀ p∈X.pn++pins,p.1≠b):Inv X pins σ H' s':=by
 obtain⟨h',g',d',t',o'⟩:=s';have e:o'=s.os:=ho;subst e;exact I.call (g':=g') (t':=t') (d':=d') u hok hg hch
end
abbrev XK:=Value→Option Addr→Hp→Prop
abbrev St:=List (Option V)
abbrev VK:=V→Hp→Prop
abbrev TE:=St→Hp→VK→Prop
abbrev TT:=St→Hp→(Bool→Hp→Prop)→Prop
abbrev TA:=St→Hp→(List V→Hp→Prop)→Prop
structure Ends where
 nx:St→Hp→Prop
 rt:VK
 bk:St→Hp→Prop:=fun _ _=>False
 ct:St→Hp→Prop:=fun _ _=>False
abbrev TS:=Ends→St→Hp→Prop
def EP(X:Cx)(pins:List (Addr×Obj))(σ:St)(Q:VK)(u:Value)(s':Shared):Prop:=∃ v H',Inv X pins σ H' s'∧RelV v u∧Q v H'
def TP(X:Cx)(pins:List (Addr×Obj))(σ:St)(Q:Bool→Hp→Prop)(b:Bool)(s':Shared):Prop:=∃ H',Inv X pins σ H' s'∧Q b H'
def AP(X:Cx)(pins:List (Addr×Obj))(σ:St)(Q:List V→Hp→Prop)(us:List Value)(s':Shared):Prop:=∃ vs H',Inv X pins σ H' s'∧Vals vs us∧Q vs H'
def SP(X:Cx)(pins:List (Addr×Obj))(D:Ends)(f:Flow)(s':Shared):Prop:=
 match f with
 | .next=>∃ σ' H',Inv X pins σ' H' s'∧D.nx σ' H'
 | .brk=>∃ σ' H',Inv X pins σ' H' s'∧D.bk σ' H'
 | .cont=>∃ σ' H',Inv X pins σ' H' s'∧D.ct σ' H'
 | .ret u=>∃ v σ' H',Inv X pins σ' H' s'∧RelV v u∧D.rt v H'
def PE(X:Cx)(e:Expr)(t:TE):Prop:=
 ∀ (pins:List (Addr×Obj)) (s:Shared) (σ:St) (H:Hp) (Q:VK),Inv X pins σ H s→t σ H Q→wpAny (model X.prog X.w) X.A (eval e X.env) (EP X pins σ Q) X.xe s
def PT(X:Cx)(e:Expr)(t:TT):Prop:=
 ∀ (pins:List (Addr×Obj)) (s:Shared) (σ:St) (H:Hp) (Q:Bool→Hp→Prop),Inv X pins σ H s→t σ H Q→wpAny (model X.prog X.w) X.A (isTrue e X.env (eval e X.env)) (TP X pins σ Q) X.xe s
def PW(X:Cx)(e:Expr)(t:TT):Prop:=
 ∀ (whole:Sem Value) (pins:List (Addr×Obj)) (s:Shared) (σ:St) (H:Hp) (Q:Bool→Hp→Prop),Inv X pins σ H s→t σ H Q→wpAny (model X.prog X.w) X.A (isTrue e X.env whole) (TP X pins σ Q) X.xe s
theorem PW.pt{X:Cx}{e:Expr}{t:TT}(h:PW X e t):PT X e t:=h _
def PA(X:Cx)(es:List Expr)(t:TA):Prop:=
 ∀ (pos:Pos) (pins:List (Addr×Obj)) (s:Shared) (σ:St) (H:Hp) (Q:List V→Hp→Prop),Inv X pins σ H s→t σ H Q→wpAny (model X.prog X.w) X.A (spliced (backTo pos (starEach es X.env))) (AP X pins σ Q) X.xe s
def PS(X:Cx)(st:Stmt)(t:TS):Prop:=
 ∀ (pins:List (Addr×Obj)) (s:Shared) (σ:St) (H:Hp) (D:Ends),Inv X pins σ H s→t D σ H→wpAny (model X.prog X.w) X.A (exec st X.env) (SP X pins D) X.xe s
def MZ(X:Cx)(st:List Stmt)(t:TS):Prop:=
 ∀ (pins:List (Addr×Obj)) (s:Shared) (σ:St) (H:Hp) (D:Ends),Inv X pins σ H s→t D σ H→wpAny (model X.prog X.w) X.A (execs st X.env) (SP X pins D) X.xe s
theorem eR{α:Type}{t:Sem α}{Q Q':α→Shared→Prop}{M:Model}{A:Around}{E:Value→Shared→Prop}{s:Shared}(h:wpAny M A t Q E s)(hQ:∀ a s,Q a s→Q' a s):wpAny M A t Q' E s:=wpAny_mono h hQ fun _ _ x=>x
end L2
namespace L2
open PySem PySem.Spec PyProof.Rows
section
variable{X:Cx}
theorem bin{a b:Expr}{ta tb:TE}(ha:PE X a ta)(hb:PE X b tb){pins:List (Addr×Obj)}{s:Shared}{σ:St}{H:Hp}{R:V→V→Hp→Prop}(I:Inv X pins σ H s)(h:ta σ H fun x H1=>tb σ H1 fun y H2=>R x y H2)
  {α:Type} {Q:α→Shared→Prop} {f:Value→Value→Sem α}
  (hf:∀ v u s2 x y H2,Inv X pins σ H2 s2→RelV x v→RelV y u→R x y H2→wpAny (model X.prog X.w) X.A (f v u) Q X.xe s2):
  wpAny (model X.prog X.w) X.A (eval a X.env) (fun v s₁=>wpAny (model X.prog X.w) X.A (eval b X.env) (fun u s₂=>wpAny (model X.prog X.w) X.A (f v u) Q X.xe s₂) X.xe s₁) X.xe s:=by
 refine eR (ha pins s σ H _ I h) fun v s1 bO=>aB bO fun x H1 I1 r1 q1=>?_;refine eR (hb pins s1 σ H1 _ I1 q1) fun u s2 cA=>aB cA fun y H2 I2 r2 q2=>?_;exact hf v u s2 x y H2 I2 r1 r2 q2
def NY(i:Nat):TE:=fun σ H Q=>∃ v,σ[i]?=some (some v)∧Q v H
def tC(v:V):TE:=fun _ H Q=>Q v H
theorem aBe{i:Nat}{x:Str}{pos:Pos}(hN:X.N[i]?=some x)(hv:Vis X.env.scope x)(hd:(x==("__debug__":Str))=false:=by decide)(hcd:(x==("__classdict__":Str))=false:=by decide):PE X (.Name x pos) (NY i):=by
 intro pins s σ H Q I h;refine aA h fun v e h=>?_;refine aA I.loc fun m hn hl=>?_;refine aA (hl i x v hN e hv) fun u r l=>?_;have fin:EP X pins σ Q u s:=⟨v,H,I,r,h⟩;rcases l with ⟨hk,hm⟩ | ⟨hk,c,hc,hcell⟩
 ·exact wpAny_Name (wpAny_loadName_local I.ok.kind hk hn hm fin) hd
 ·rcases hk with hk | hk
  ·exact wpAny_Name (wpAny_loadName_cell I.ok.kind hk hc hcell fin) hd
  ·exact wpAny_Name (wpAny_loadName_free I.ok.kind hk hc hcell fin hcd) hd
theorem a8{i j pos}:PE X (.Constant (.int i) j pos) (tC (.int i)):=fun _ _ _ H _ I h=>wpAny_Constant_int ⟨.int i,H,I.tok _,⟨_,rfl⟩,h⟩
theorem Q7{b j pos}:PE X (.Constant (.bool b) j pos) (tC (.bl b)):=fun _ _ _ H _ I h=>Constant_bool ⟨.bl b,H,I,rfl,h⟩
theorem n9{j pos}:PE X (.Constant .none j pos) (tC .non):=fun _ _ _ H _ I h=>Constant_none ⟨.non,H,I,rfl,h⟩
def Gl(X:Cx)(x:Str):Prop:=X.env.kindOf x=some .globalImplicit
theorem w8{E:Value→Shared→Prop}{pins:List (Addr×Obj)}{s:Shared}{σ:St}{H:Hp}{x:Str}{u:Value}{pos:Pos}{Q:Value→Shared→Prop}(I:Inv X pins σ H s)(hg:Gl X x)(hm:X.mg x=some u)(h:Q u s)
  (hd:(x==("__debug__":Str))=false:=by decide):wpAny (model X.prog X.w) X.A (eval (.Name x pos) X.env) Q E s:=
 Calls.Name_function_global I.ok.kind hg (Calls.loadGlobal_global (by rw[I.ok.glob];exact I.mod.glob.keeps I.bk) hm h) hd
theorem DW{E:Value→Shared→Prop}{pins:List (Addr×Obj)}{s:Shared}{σ:St}{H:Hp}{x:Str}{u:Value}{pos:Pos}{Q:Value→Shared→Prop}(I:Inv X pins σ H s)(hg:Gl X x)(hm:X.mg x=none)(hv:bootBuiltins x=some u)(h:Q u s)
  (hn:x≠"__name__":=by decide) (hd:(x==("__debug__":Str))=false:=by decide):wpAny (model X.prog X.w) X.A (eval (.Name x pos) X.env) Q E s:=by
 refine aA I.mod.blt fun mb h1 h2=>?_;exact Calls.Name_function_global I.ok.kind hg (Calls.loadGlobal_builtin (by rw[I.ok.glob];exact I.mod.glob.keeps I.bk) hm (by rw[I.ok.blt];exact h1.keeps I.bk) ((h2 x hn).trans hv) h) hd
theorem Q4{x:Str}{v:V}{u:Value}{pos:Pos}(hg:Gl X x)(hm:X.mg x=some u)(r:RelV v u)(hd:(x==("__debug__":Str))=false:=by decide):PE X (.Name x pos) (tC v):=
 fun _ _ _ H _ I h=>w8 I hg hm ⟨v,H,I,r,h⟩ hd
def t2I(ta tb:TE)(k:Int→Int→Hp→Prop):St→Hp→Prop:=fun σ H=>ta σ H fun x H1=>tb σ H1 fun y H2=>∃ i j,x= .int i∧y= .int j∧k i j H2
variable{a b:Expr}{ta tb:TE}{pos:Pos}
def PC(X:Cx)(op:CmpOp)(a b:Expr)(t:TE):Prop:=
 ∀ (pins:List (Addr×Obj)) (s:Shared) (σ:St) (H:Hp) (Q:VK),Inv X pins σ H s→t σ H Q →
  wpAny (model X.prog X.w) X.A (eval a X.env) (fun v s₁=>wpAny (model X.prog X.w) X.A (eval b X.env) (fun u s₂=>wpAny (model X.prog X.w) X.A (compareOp op v u) (EP X pins σ Q) X.xe s₂) X.xe s₁) X.xe s
theorem wV(b:Expr){op:CmpOp}(h:op≠.In)(h2:op≠.NotIn):behindInMarks op b=false:=by
 have e1:(op==CmpOp.In)=false:=by cases op <;> first | rfl | exact absurd rfl h
 have e2:(op==CmpOp.NotIn)=false:=by cases op <;> first | rfl | exact absurd rfl h2
 cases b <;> simp [behindInMarks,e1,e2]
def N2(p:Int→Int→Bool)(ta tb:TE):TE:=fun σ H Q=>t2I ta tb (fun i j H2=>Q (.bl (p i j)) H2) σ H
abbrev tLt:TE→TE→TE:=N2 fun i j=>decide (i<j)
abbrev tGt:TE→TE→TE:=N2 fun i j=>decide (j<i)
abbrev tGe:TE→TE→TE:=N2 fun i j=>decide (j≤i)
abbrev aCh:TE→TE→TE:=N2 fun i j=>decide (i=j)
abbrev aCd:TE→TE→TE:=N2 fun i j=> !decide (i=j)
theorem DE{op:CmpOp}{p:Int→Int→Bool}(ha:PE X a ta)(hb:PE X b tb)
  (rule:∀ (i j:Int) (t u:Tok) (Q:Value→Shared→Prop) (s:Shared),Q (.bool (p i j)) s→wpAny (model X.prog X.w) X.A (compareOp op (.int i t) (.int j u)) Q X.xe s):PC X op a b (N2 p ta tb):=by
 intro pins s σ H Q I h;refine bin ha hb I h fun v u s2 x y H2 I2 rx ry q=>?_;obtain⟨i,j,rfl,rfl,q⟩:=q;obtain⟨t,rfl⟩:=rx;obtain⟨t',rfl⟩:=ry;exact rule i j t t' _ s2 ⟨.bl _,H2,I2,rfl,q⟩
theorem wM(ha:PE X a ta)(hb:PE X b tb):PC X .Lt a b (tLt ta tb):=DE ha hb fun _ _ _ _ _ _ h=>lt_int h
theorem jN(ha:PE X a ta)(hb:PE X b tb):PC X .Gt a b (tGt ta tb):=DE ha hb fun _ _ _ _ _ _ h=>gt_int h
theorem LP(ha:PE X a ta)(hb:PE X b tb):PC X .GtE a b (tGe ta tb):=DE ha hb fun _ _ _ _ _ _ h=>ge_int h
theorem cY(ha:PE X a ta)(hb:PE X b tb):PC X .Eq a b (aCh ta tb):=DE ha hb fun _ _ _ _ _ _ h=>eq_int (by rw[Bool.beq_eq_decide_eq];exact h)
theorem gO(ha:PE X a ta)(hb:PE X b tb):PC X .NotEq a b (aCd ta tb):=DE ha hb fun _ _ _ _ _ _ h=>ne_int (by rw[bne,Bool.beq_eq_decide_eq];exact h)
def aAF(ta:TE):TE:=fun σ H Q=>ta σ H fun x H1=>Q (.bl (decide (x= .non))) H1
def U3(ta:TE):TE:=fun σ H Q=>ta σ H fun x H1=>Q (.bl (!decide (x= .non))) H1
theorem RelV.L9{x:V}{v:Value}(r:RelV x v):(v==Value.none)=decide (x= .non):=by
 cases x with
 | non=>cases r;rfl
 | bl _=>cases r;rfl
 | int _=>obtain⟨t,rfl⟩:=r;rfl
 | str _=>obtain⟨t,rfl⟩:=r;rfl
 | T9 _=>obtain⟨t,rfl⟩:=r;rfl
 | flt _=>obtain⟨t,rfl⟩:=r;rfl
 | ref _=>cases r;rfl
 | ty _=>cases r;rfl
theorem uX{j pos'}(ha:PE X a ta):PC X .Is a (.Constant .none j pos') (aAF ta):=by
 intro pins s σ H Q I h;refine eR (ha pins s σ H _ I h) fun v s1 bO=>aB bO fun x H1 I1 r1 q1=>?_;exact Constant_none (is_none_gen ⟨.bl _,H1,I1,by rw[r1.L9];rfl,q1⟩)
theorem pM{j pos'}(ha:PE X a ta):PC X .IsNot a (.Constant .none j pos') (U3 ta):=by
 intro pins s σ H Q I h;refine eR (ha pins s σ H _ I h) fun v s1 bO=>aB bO fun x H1 I1 r1 q1=>?_;exact Constant_none (isnot_none_gen ⟨.bl _,H1,I1,by rw[r1.L9];rfl,q1⟩)
def tB(t:TE):TT:=fun σ H Q=>t σ H fun x H1=>∃ c,x= .bl c∧Q c H1
theorem hG{op:CmpOp}{t:TE}(h:PC X op a b t)(h1:behindInMarks op b=false:=by first | exact wV _ (by decide) (by decide) | rfl):PE X (.Compare a [op] [b] pos) t:=fun pins s σ H Q I hw=>wpAny_Compare1 (h pins s σ H Q I hw) h1
theorem bU{op:CmpOp}{t:TE}(h:PC X op a b t)(h1:behindInMarks op b=false:=by first | exact wV _ (by decide) (by decide) | rfl):PT X (.Compare a [op] [b] pos) (tB t):=by
 intro pins s σ H Q I hw;refine wpAny_isTrue_Compare1 (eR (h pins s σ H _ I hw) fun v s1 h1=>eR h1 fun u s2 h2=>eR h2 fun c s3 bO=>aB bO fun x H1 I1 r1 q1=>?_) h1;(refine aA q1 fun d cA q=>?_;subst cA);cases r1;exact wpAny_truthy_bool ⟨H1,I1,q⟩
theorem eO{e:Expr}{t:TE}(h:PE X e t)(he:∀ whole,isTrue e X.env whole=(do let v ←whole;standAt e.pos;holding [v] (truthy v)):=by intro _;rfl):PT X e (tB t):=by
 intro pins s σ H Q I hw;refine isTrue_plain (eR (h pins s σ H _ I hw) fun v s1 bO=>aB bO fun x H1 I1 r1 q1=>?_) (he _);(refine aA q1 fun d cA q=>?_;subst cA);cases r1;exact wpAny_truthy_bool ⟨H1,I1,q⟩
variable{tA tB':TT}{rest:List Expr}
def aCi(t u:TT):TT:=fun σ H Q=>t σ H fun c H1=>if c=true then u σ H1 Q else Q false H1
def tOr(t u:TT):TT:=fun σ H Q=>t σ H fun c H1=>if c=true then Q true H1 else u σ H1 Q
def aCc(t:TT):TT:=fun σ H Q=>t σ H fun c H1=>Q (!c) H1
theorem lJ(ha:PT X a tA):PW X (.BoolOp .And [a] pos) tA:=by
 intro wh pins s σ H Q I h;refine isTrue_and (eR (ha pins s σ H Q I h) fun c s1 e=>?_)
 cases c with
 | true=>exact isTrue_and_nil e
 | false=>exact e
theorem k0(ha:PT X a tA):PW X (.BoolOp .Or [a] pos) tA:=by
 intro wh pins s σ H Q I h;refine isTrue_or (eR (ha pins s σ H Q I h) fun c s1 e=>?_)
 cases c with
 | false=>exact isTrue_or_nil e
 | true=>exact e
theorem pK(ha:PT X a tA)(hb:PW X (.BoolOp .And (b::rest) pos) tB'):PW X (.BoolOp .And (a::b::rest) pos) (aCi tA tB'):=by
 intro wh pins s σ H Q I h;refine isTrue_and (eR (ha pins s σ H _ I h) fun c s1 bO=>aA bO fun H1 I1 q1=>?_)
 cases c with
 | true=>exact hb wh pins s1 σ H1 Q I1 q1
 | false=>exact⟨H1,I1,q1⟩
theorem jM(ha:PT X a tA)(hb:PW X (.BoolOp .Or (b::rest) pos) tB'):PW X (.BoolOp .Or (a::b::rest) pos) (tOr tA tB'):=by
 intro wh pins s σ H Q I h;refine isTrue_or (eR (ha pins s σ H _ I h) fun c s1 bO=>aA bO fun H1 I1 q1=>?_)
 cases c with
 | true=>exact⟨H1,I1,q1⟩
 | false=>exact hb wh pins s1 σ H1 Q I1 q1
theorem jT(ha:PT X a tA):PT X (.UnaryOp .Not a pos) (aCc tA):=by
 intro pins s σ H Q I h;exact isTrue_not (ha pins s σ H (fun c H1=>Q (!c) H1) I h)
def U7(ta tb:TE):TE:=fun σ H Q=>ta σ H fun x H1=>∃ c,x= .bl c∧if c=true then tb σ H1 Q else Q (.bl false) H1
def aAD(ta tb:TE):TE:=fun σ H Q=>ta σ H fun x H1=>∃ c,x= .bl c∧if c=true then Q (.bl true) H1 else tb σ H1 Q
def U2(ta:TE):TE:=fun σ H Q=>ta σ H fun x H1=>∃ c,x= .bl c∧Q (.bl (!c)) H1
theorem DB{op}{t:TE}(h:PE X a t):PE X (.BoolOp op [a] pos) t:=fun pins s σ H Q I hw=>BoolOp_one (h pins s σ H Q I hw)
theorem IP(ha:PE X a ta)(hb:PE X (.BoolOp .And (b::rest) pos) tb):PE X (.BoolOp .And (a::b::rest) pos) (U7 ta tb):=by
 intro pins s σ H Q I h;refine BoolOp_and (eR (ha pins s σ H _ I h) fun v s1 ⟨x,H1,I1,r1,q1⟩=>?_);obtain⟨c,rfl,q1⟩:=q1;cases r1;refine wpAny_truthy_bool ?_
 cases c with
 | true=>exact hb pins s1 σ H1 Q I1 q1
 | false=>exact⟨.bl false,H1,I1,rfl,q1⟩
theorem aAr(ha:PE X a ta)(hb:PE X (.BoolOp .Or (b::rest) pos) tb):PE X (.BoolOp .Or (a::b::rest) pos) (aAD ta tb):=by
 intro pins s σ H Q I h;refine BoolOp_or (eR (ha pins s σ H _ I h) fun v s1 ⟨x,H1,I1,r1,q1⟩=>?_);obtain⟨c,rfl,q1⟩:=q1;cases r1;refine wpAny_truthy_bool ?_
 cases c with
 | false=>exact hb pins s1 σ H1 Q I1 q1
 | true=>exact⟨.bl true,H1,I1,rfl,q1⟩
theorem aBf(ha:PE X a ta):PE X (.UnaryOp .Not a pos) (U2 ta):=by
 intro pins s σ H Q I h;refine UnaryOp_ (eR (ha pins s σ H _ I h) fun v s1 ⟨x,H1,I1,r1,q1⟩=>?_);obtain⟨c,rfl,q1⟩:=q1;cases r1;exact not_of (wpAny_truthy_bool ⟨.bl (!c),H1,I1,rfl,q1⟩)
def tIf(t:TT)(ta tb:TE):TE:=fun σ H Q=>t σ H fun c H1=>if c=true then ta σ H1 Q else tb σ H1 Q
theorem iE{c:Expr}(hc:PT X c tA)(ha:PE X a ta)(hb:PE X b tb):PE X (.IfExp c a b pos) (tIf tA ta tb):=by
 intro pins s σ H Q I h;refine wpAny_IfExp (eR (hc pins s σ H _ I h) fun d s1 bO=>aA bO fun H1 I1 q1=>?_)
 cases d with
 | true=>exact ha pins s1 σ H1 Q I1 q1
 | false=>exact hb pins s1 σ H1 Q I1 q1
end
end L2
namespace L2
open PySem PySem.Spec PyProof.Rows
def cT(K:W.Frag)(H:Hp)(a:Addr)(xs:List V):Prop:=
 Rd H a (.lst xs) ∨
  ∃ (o:Obj) (its:Array Value) (n:Nat),K.lookup a=some o∧o.cls= .type "list"∧o.dict=none∧o.data= .seq its n∧its.size≤sizeLine∧Vals xs its.toList
def gF(K:W.Frag)(H:Hp)(a:Addr)(xs:List V):Prop:=
 Rd H a (.tup xs) ∨
  ∃ (o:Obj) (its:Array Value) (n:Nat),K.lookup a=some o∧o.cls= .type "tuple"∧o.data= .seq its n∧its.size≤sizeLine∧Vals xs its.toList
def aEG:Value→Option V
 | .none=>some .non
 | .bool b=>some (.bl b)
 | .int i _=>some (.int i)
 | .str x _=>some (.str x)
 | .bytes b _=>some (.T9 b)
 | .float b _=>some (.flt b)
 | .ref a=>some (.ref a)
 | .type n=>some (.ty n)
 | _=>none
theorem RelV.abs{x:V}{u:Value}(r:RelV x u):aEG u=some x:=by
 cases x with
 | non=>cases r;rfl
 | bl _=>cases r;rfl
 | int _=>obtain⟨t,rfl⟩:=r;rfl
 | str _=>obtain⟨t,rfl⟩:=r;rfl
 | T9 _=>obtain⟨t,rfl⟩:=r;rfl
 | flt _=>obtain⟨t,rfl⟩:=r;rfl
 | ref _=>cases r;rfl
 | ty _=>cases r;rfl
theorem RelV.inj{x y:V}{u:Value}(r:RelV x u)(q:RelV y u):x=y:=aFa (r.abs.symm.trans q.abs)
theorem Vals.inj:∀ {xs ys:List V} {us:List Value},Vals xs us→Vals ys us→xs=ys
 | _,_,_,.nil,.nil=>rfl
 | _,_,_,.cons r t,.cons r' t'=>by rw[r.inj r',Vals.inj t t']
section
variable{X:Cx}{pins:List (Addr×Obj)}{σ:St}{H:Hp}{s:Shared}{a:Addr}{xs ys:List V}
theorem cT.of{K:W.Frag}(h:H a=some (.lst xs)):cT K H a xs:= .inl (.inl h)
theorem gF.of{K:W.Frag}(h:H a=some (.tup xs)):gF K H a xs:= .inl (.inl h)
theorem Inv.list(I:Inv X pins σ H s)(h:cT X.K H a xs):∃ its:List Value,Vals xs its∧PlainL s.heap a its.toArray∧xs.length≤sizeLine:=by
 rcases h with h | ⟨o,its,n,hk,hc,hd,hs,hz,r⟩
 ·(refine aD (h.ok I.hok) fun z bO=>?_;refine aH bO fun its n r e=>?_);exact⟨its,r,⟨_,n,e,rfl,rfl,rfl⟩,z⟩
 ·refine⟨its.toList,r,⟨o,n,I.D3 a o hk,hc,hd,by simpa using hs⟩,?_⟩;have e:=r.length;simp only[Array.length_toList] at e;lia
theorem Inv.tuple(I:Inv X pins σ H s)(h:gF X.K H a xs):∃ its:List Value,Vals xs its∧IsTup s.heap a its.toArray∧xs.length≤sizeLine:=by
 rcases h with h | ⟨o,its,n,hk,hc,hs,hz,r⟩
 ·(refine aD (h.ok I.hok) fun z bO=>?_;refine aA bO fun its r p=>?_);exact⟨its,r,p,z⟩
 ·refine⟨its.toList,r,⟨o,I.D3 a o hk,hc,n,by simpa using hs⟩,?_⟩;have e:=r.length;simp only[Array.length_toList] at e;lia
theorem Inv.WE(I:Inv X pins σ H s)(h:cT X.K H a xs)(h':cT X.K H a ys):xs=ys:=by
 (refine aC (I.list h) fun its r bO _=>?_;obtain⟨o,n,e,_,_,d⟩:=bO);(refine aC (I.list h') fun its' r' cA _=>?_;obtain⟨o',n',e',_,_,d'⟩:=cA);rw[e] at e';cases e';rw[d] at d';injection d' with d1 _
 have:its=its':=by simpa using congrArg Array.toList d1
 subst this;exact r.inj r'
theorem Inv.SG(I:Inv X pins σ H s)(h:gF X.K H a xs)(h':gF X.K H a ys):xs=ys:=by
 (refine aC (I.tuple h) fun its r bO _=>?_;obtain⟨o,e,_,n,d⟩:=bO);(refine aC (I.tuple h') fun its' r' cA _=>?_;obtain⟨o',e',_,n',d'⟩:=cA);rw[e] at e';cases e';rw[d] at d';injection d' with d1 _
 have:its=its':=by simpa using congrArg Array.toList d1
 subst this;exact r.inj r'
end
abbrev Cx.wish(X:Cx)(E:Value→Shared→Prop):Cx:={X with xe:=E}
abbrev Cx.X0(X:Cx):Cx:=X.wish fun _ _=>False
theorem Cx.Ok.wish{X:Cx}(ok:X.Ok)(E:Value→Shared→Prop):(X.wish E).Ok:=
 ⟨ok.mod,ok.kind,ok.glob,ok.blt,ok.above,ok.inj,ok.has,ok.cab,ok.hd,ok.frames,ok.stk,ok.exf,ok.bs,ok.XJ,ok.V4,ok.W6,ok.xH,ok.frf⟩
theorem Cx.Ok.qJ{X:Cx}{E:Value→Shared→Prop}(ok:(X.wish E).Ok):X.Ok:=
 ⟨ok.mod,ok.kind,ok.glob,ok.blt,ok.above,ok.inj,ok.has,ok.cab,ok.hd,ok.frames,ok.stk,ok.exf,ok.bs,ok.XJ,ok.V4,ok.W6,ok.xH,ok.frf⟩
section
variable{X:Cx}{pins:List (Addr×Obj)}{σ:St}{H:Hp}{s:Shared}{E:Value→Shared→Prop}
theorem Inv.wish(I:Inv X pins σ H s)(E:Value→Shared→Prop):Inv (X.wish E) pins σ H s:=⟨I.ok.wish E,I.os,I.bare,I.base,I.loc,I.cell,I.free,I.p8,I.pin,I.hok,I.len⟩
theorem Inv.qJ(I:Inv (X.wish E) pins σ H s):Inv X pins σ H s:=⟨I.ok.qJ,I.os,I.bare,I.base,I.loc,I.cell,I.free,I.p8,I.pin,I.hok,I.len⟩
theorem SP.qJ{D:Ends}{f:Flow}{s':Shared}(h:SP (X.wish E) pins D f s'):SP X pins D f s':=by
 cases f with
 | next=>refine aH h fun σ' H' I q=>?_;exact⟨σ',H',I.qJ,q⟩
 | brk=>refine aH h fun σ' H' I q=>?_;exact⟨σ',H',I.qJ,q⟩
 | cont=>refine aH h fun σ' H' I q=>?_;exact⟨σ',H',I.qJ,q⟩
 | ret u=>refine aJ h fun v σ' H' I r q=>?_;exact⟨v,σ',H',I.qJ,r,q⟩
theorem MZ.X0{st:List Stmt}{t:TS}(h:MZ X.X0 st t):MZ X st t:=fun pins s σ H D I hw=>
 wpAny_mono (h pins s σ H D (I.wish _) hw) (fun _ _ q=>q.qJ) fun _ _ z=>False.elim z
end
section
variable{X:Cx}{st:Stmt}{rest:List Stmt}{t u:TS}{e:Expr}{te:TE}{pos:Pos}
def aAj:TS:=fun D σ H=>D.nx σ H
def qC(t u:TS):TS:=fun D σ H=>t {D with nx:=u D} σ H
theorem bT:MZ X [] aAj:=fun _ _ σ H _ I h=>wpAny_execs_nil ⟨σ,H,I,h⟩
theorem aZ(h1:PS X st t)(h2:MZ X rest u):MZ X (st::rest) (qC t u):=by
 intro pins s σ H D I h;refine wpAny_execs_cons (eR (h1 pins s σ H {D with nx:=u D} I h) fun f s1 q=>?_)
 cases f with
 | next=>
  refine aH q fun σ' H' I' q=>?_;exact h2 pins s1 σ' H' D I' q
 | ret v=>exact q
 | brk=>exact q
 | cont=>exact q
theorem bA(h1:PS X st t):MZ X [st] t:=by
 intro pins s σ H D I h;refine wpAny_execs_cons (eR (h1 pins s σ H D I h) fun f s1 q=>?_)
 cases f with
 | next=>exact wpAny_execs_nil q
 | ret v=>exact q
 | brk=>exact q
 | cont=>exact q
theorem Inv.quiet{pins:List (Addr×Obj)}{σ:St}{H:Hp}{s:Shared}(I:Inv X pins σ H s):interactive X.env=false:=by simp [interactive,I.ok.kind]
def aAk(te:TE):TS:=fun D σ H=>te σ H fun _ H1=>D.nx σ H1
theorem dA(he:PE X e te)(hs:swapsWith e none pos.line X.env=pure false:=by rfl):PS X (.Expr e pos) (aAk te):=by
 intro pins s σ H D I h;exact wpAny_Expr_any (eR (he pins s σ H _ I h) fun v s1 bO=>aB bO fun x H1 I1 r1 q1=>⟨σ,H1,I1,q1⟩) I.quiet hs
def aCb(te:TE):TS:=fun D σ H=>te σ H D.rt
theorem bI(he:PE X e te):PS X (.Return (some e) pos) (aCb te):=by
 intro pins s σ H D I h;exact wpAny_Return_some (eR (he pins s σ H _ I h) fun v s1 bO=>aB bO fun x H1 I1 r1 q1=>⟨x,σ,H1,I1,r1,q1⟩)
def aCa:TS:=fun D _ H=>D.rt .non H
def aCf(c:TT)(t u:TS):TS:=fun D σ H=>c σ H fun b H1=>if b=true then t D σ H1 else u D σ H1
theorem cE{c:Expr}{a b:List Stmt}{tc:TT}(hc:PT X c tc)(ha:MZ X a t)(hb:MZ X b u):PS X (.If c a b pos) (aCf tc t u):=by
 intro pins s σ H D I h;refine wpAny_If (eR (hc pins s σ H _ I h) fun d s1 bO=>aA bO fun H1 I1 q1=>?_)
 cases d with
 | true=>exact ha pins s1 σ H1 D I1 q1
 | false=>exact hb pins s1 σ H1 D I1 q1
end
abbrev TG:=V→St→Hp→(St→Hp→Prop)→Prop
def PG(X:Cx)(target:Expr)(t:TG):Prop:=
 ∀ (pins:List (Addr×Obj)) (s:Shared) (σ:St) (H:Hp) (v:V) (u:Value) (Q:St→Hp→Prop),Inv X pins σ H s→RelV v u→t v σ H Q →
  wpAny (model X.prog X.w) X.A (assign target X.env u) (fun _ s'=>∃ σ' H',Inv X pins σ' H' s'∧Q σ' H') X.xe s
abbrev aBV:=V→V→V→Hp→(Hp→Prop)→Prop
def aCZ(X:Cx)(t:aBV):Prop:=
 ∀ (pins:List (Addr×Obj)) (s:Shared) (σ:St) (H:Hp) (o i v:V) (ov iv u:Value) (Q:Hp→Prop),Inv X pins σ H s→RelV o ov→RelV i iv→RelV v u→t o i v H Q →
  wpAny (model X.prog X.w) X.A (setItem ov iv u) (fun _ s'=>∃ H',Inv X pins σ H' s'∧Q H') X.xe s
abbrev TIp:=V→V→Hp→VK→Prop
def PIp(X:Cx)(op:Operator)(t:TIp):Prop:=
 ∀ (pins:List (Addr×Obj)) (s:Shared) (σ:St) (H:Hp) (x y:V) (v u:Value) (Q:VK),Inv X pins σ H s→RelV x v→RelV y u→t x y H Q →
  wpAny (model X.prog X.w) X.A (inplaceOp op v u) (EP X pins σ Q) X.xe s
section
variable{X:Cx}{pos:Pos}
def MP(i:Nat):TG:=fun v σ H Q=>Q (σ.set i (some v)) H
theorem dM{i:Nat}{x:Str}(hN:X.N.Nodup)(hi:X.N[i]?=some x)(hx:Loc X.env.scope x)(hf:X.fn x=true∨X.env.scope.names.lookup x=some .local:=by first | exact .inl rfl | exact .inr rfl | assumption):PG X (.Name x pos) (MP i):=by
 intro pins s σ H v u Q I r h;exact wpAny_assign_Name (B1 I hN hi hx r (fun s' I'=>⟨_,H,I',h⟩) hf)
def aBF(to ti:TE)(t:aBV):TG:=fun v σ H Q=>to σ H fun o H1=>ti σ H1 fun i H2=>t o i v H2 fun H3=>Q σ H3
theorem mE{o i:Expr}{to ti:TE}{t:aBV}(ho:PE X o to)(hi:PE X i ti)(hs:aCZ X t)
  (ha:∀ v,assign (.Subscript o i pos) X.env v=(do
   let ov ←holding [v] (eval o X.env)
   let iv ←holding [v,ov] (eval i X.env)
   standAt pos
   holding [v,ov,iv] (setItem ov iv v)
   release [v,ov,iv] []):=by intro _;rfl):PG X (.Subscript o i pos) (aBF to ti t):=by
 intro pins s σ H v u Q I r h;rw[ha];refine wpAny_bind (wpAny_holding (eR (ho pins s σ H _ I h) fun ov s1 bO=>aB bO fun x H1 I1 r1 q1=>?_));refine wpAny_bind (wpAny_holding (eR (hi pins s1 σ H1 _ I1 q1) fun iv s2 cA=>aB cA fun y H2 I2 r2 q2=>?_));refine wpAny_bind (wpAny_standAt (wpAny_bind (wpAny_holding (eR (hs pins s2 σ H2 x y v ov iv u _ I2 r1 r2 r q2) fun _ s3 dF=>aA dF fun H3 I3 q3=>?_))));exact wpAny_release ⟨σ,H3,I3,q3⟩
def YF(te:TE)(g:TG):TS:=fun D σ H=>te σ H fun x H1=>g x σ H1 D.nx
theorem mD{tg e:Expr}{te:TE}{g:TG}(he:PE X e te)(hg:PG X tg g)(hs:swapsWithSole [tg] e pos.line X.env=pure false:=by rfl)(hw:swappedStores [tg] e X.env=pure none:=by rfl)
  (h1:(assignEach [tg] X.env).map (·.2)=[assign tg X.env]:=by rfl):PS X (.Assign [tg] e pos) (YF te g):=by
 intro pins s σ H D I h;refine wpAny_Assign_stores (eR (he pins s σ H _ I h) fun v s1 bO=>aB bO fun x H1 I1 r1 q1=>?_) hs hw;rw[h1];exact eR (hg pins s1 σ H1 x v _ I1 r1 q1) fun _ s2 q=>q
theorem bK{i:Nat}{x:Str}{e:Expr}{te:TE}{pos':Pos}(hN:X.N.Nodup)(hi:X.N[i]?=some x)(hx:Loc X.env.scope x)(he:PE X e te)(hs:swapsWith e (some (.Name x pos')) pos.line X.env=pure false:=by rfl)(hf:X.fn x=true∨X.env.scope.names.lookup x=some .local:=by first | exact .inl rfl | exact .inr rfl | assumption):
  PS X (.Assign [.Name x pos'] e pos) (YF te (MP i)):=by
 intro pins s σ H D I h;refine wpAny_Assign_Name (eR (he pins s σ H _ I h) fun v s1 bO=>aB bO fun y H1 I1 r1 q1=>?_) hs;exact B1 I1 hN hi hx r1 (fun s2 I2=>⟨_,H1,I2,q1⟩) hf
def aAH(i:Nat)(te:TE)(ti:TIp):TS:=fun D σ H=>∃ x,σ[i]?=some (some x)∧te σ H fun y H1=>ti x y H1 fun z H2=>D.nx (σ.set i (some z)) H2
theorem VN{i:Nat}{x:Str}{e:Expr}{te:TE}{op:Operator}{ti:TIp}{pos':Pos}(hN:X.N.Nodup)(hi:X.N[i]?=some x)(hx:Loc X.env.scope x)(he:PE X e te)(ho:PIp X op ti)(hf:X.fn x=true∨X.env.scope.names.lookup x=some .local:=by first | exact .inl rfl | exact .inr rfl | assumption):
  PS X (.AugAssign (.Name x pos') op e pos) (aAH i te ti):=by
 intro pins s σ H D I h;refine aA h fun v e1 h=>?_;refine aA I.loc fun m hn hl=>?_;have vis:Vis X.env.scope x:=by rcases hx with k | k;exact .inl k;exact .inr (.inl k)
 refine aA (hl i x v hi e1 vis) fun u r l=>?_;refine wpAny_AugAssign_Name ?_;have go:wpAny (model X.prog X.w) X.A (eval e X.env) (fun w s₂=>wpAny (model X.prog X.w) X.A (inplaceOp op u w) (fun r s₃=>wpAny (model X.prog X.w) X.A (storeName X.env x r) (fun _=>SP X pins D .next) X.xe s₃) X.xe s₂) X.xe s:=by
  refine eR (he pins s σ H _ I h) fun w s1 bO=>aB bO fun y H1 I1 r1 q1=>?_;refine eR (ho pins s1 σ H1 v y u w _ I1 r r1 q1) fun z s2 cA=>aB cA fun zv H2 I2 r2 q2=>?_;exact B1 I2 hN hi hx r2 (fun s3 I3=>⟨_,H2,I3,q2⟩) hf
 rcases l with ⟨hk,hm⟩ | ⟨hk,c,hc,hcell⟩
 ·exact wpAny_loadName_local I.ok.kind hk hn hm go
 ·rcases hk with hk | hk
  ·exact wpAny_loadName_cell I.ok.kind hk hc hcell go
  ·rcases hx with k | k
   ·have:X.env.scope.names.lookup x=some .free:=hk;rw[k] at this;cases this
   ·have:X.env.scope.names.lookup x=some .free:=hk;rw[k] at this;cases this
def ipI(f:Int→Int→Int):TIp:=fun x y H Q=>∃ i j,x= .int i∧y= .int j∧Q (.int (f i j)) H
theorem WM:PIp X .Add (ipI fun i j=>i+j):=by
 intro pins s σ H x y v u Q I r1 r2 h;refine aB h fun i j e1 e2 q=>?_;subst e1;subst e2;obtain⟨t,rfl⟩:=r1;obtain⟨t',rfl⟩:=r2;exact iadd_int ⟨.int _,H,I.tok _,⟨_,rfl⟩,q⟩
end
section
variable{X:Cx}{pos:Pos}
def aAC(c:TT)(tb:TS):TS:=fun D σ H=>∃ W:Nat→St→Hp→Prop,(∃ m,W m σ H)∧∀ m σ H,W m σ H →
 c σ H fun b H1=>if b=true then ∃ N:St→Hp→Prop,(∀ σ' H',N σ' H'→∃ m',m'<m∧W m' σ' H')∧tb {D with nx:=N,ct:=N,bk:=D.nx} σ H1 else D.nx σ H1
theorem wK{c:Expr}{body:List Stmt}{tc:TT}{tb:TS}(hp:PassesOwn (model X.prog X.w) X.A X.env X.xe)(hc:PT X c tc)(hb:MZ X body tb):PS X (.While c body [] pos) (aAC tc tb):=by
 intro pins s σ H D I h;(refine aA h fun W bO turn=>?_;obtain⟨m0,w0⟩:=bO);refine wpAny_While (codeAny_whileLoop (fun n s'=>∃ σ' H',Inv X pins σ' H' s'∧W n σ' H') ?_ m0 ⟨σ,H,I,w0⟩);rintro n s1 ⟨σ1,H1,I1,w1⟩;refine wpAny_passesOwn hp (eR (hc pins s1 σ1 H1 _ I1 (turn n σ1 H1 w1)) fun b s2 cA=>aA cA fun H2 I2 q2=>?_)
 cases b with
 | true=>
  refine aA q2 fun N hN q2=>?_;rw[if_pos rfl];refine wpAny_passesOwn hp (eR (hb pins s2 σ1 H2 _ I2 q2) fun f s3 q3=>?_)
  cases f with
  | next=>
   refine aH q3 fun σ3 H3 I3 n3=>?_;refine aA (hN σ3 H3 n3) fun m' hm w3=>?_;exact⟨m',hm,σ3,H3,I3,w3⟩
  | cont=>
   refine aH q3 fun σ3 H3 I3 n3=>?_;refine aA (hN σ3 H3 n3) fun m' hm w3=>?_;exact⟨m',hm,σ3,H3,I3,w3⟩
  | brk=>exact q3
  | ret v=>exact q3
 | false=>
  rw[if_neg Bool.false_ne_true];exact wpAny_execs_nil ⟨σ1,H2,I2,q2⟩
end
structure It where
 go:Nat→Hp→Prop
 UL:Nat→Hp→V→Hp→Prop
 stop:Nat→Hp→Prop
def FX(X:Cx)(pins:List (Addr×Obj))(H:Hp)(b:Addr):Prop:=
 H b=none∧b≠X.env.locals∧b∉X.fs∧(b∈X.ex∨X.s_0.heap.objs.size≤b)∧(∀ x c,X.env.cells.lookup x=some c→c≠b)∧∀ p∈X.pn++pins,p.1≠b
theorem Inv.W4{X:Cx}{pins:List (Addr×Obj)}{σ:St}{H H':Hp}{s:Shared}{b:Addr}(I:Inv X pins σ H s)(hb:s.heap.objs.size≤b)(hn:H' b=none):FX X pins H' b:=by
 refine⟨hn,Nat.ne_of_gt (aFs I.lt hb),I.aDR hb,.inr (aFt I.sz hb),fun x c e z=>?_,fun p hp z=>?_⟩
 ·obtain⟨v,q⟩:=I.cell x c e;exact absurd (aFs q.lt (by rw[z];exact hb)) (Nat.lt_irrefl _)
 ·exact absurd (aFs (Heap.lt_size (I.pin p hp).1) (by rw[z];exact hb)) (Nat.lt_irrefl _)
structure Turn(P:Program)(w:World)(K:W.Frag)(tg:Expr)(J:It)(fp:List Addr)(it:Addr)(tn:Nat→Heap→Prop):Prop where
 mem:it∈fp
 obj:∀ i h,tn i h→∀ b∈fp,∃ o,h.get? b=some o∧∀ v,o.data≠.cell v
 keep:∀ i h h',tn i h→(∀ b∈fp,∀ o,h.get? b=some o→h'.get? b=some o)→tn i h'
 item:∀ (X:Cx),X.prog=P→X.w=w→X.K=K→X.calm=true→∀ (i:Nat) (pins:List (Addr×Obj)) (s:Shared) (σ:St) (H:Hp) (E:Value→Shared→Prop),Inv X pins σ H s→(∀ b∈fp,FX X pins H b)→tn i s.heap→J.go i H →
  wpAny (model P w) X.A (pyNext (.ref it)) (fun r s1=>∃ u,r=some u ∧
   wpAny (model P w) X.A (letOwnedTupleGo tg (.ref it) u) (fun _ s2=>∃ x H',Inv X pins σ H' s2∧RelV x u∧J.UL i H x H'∧tn (i+1) s2.heap∧∀ b∈fp,H' b=none) E s1) E s
 done:∀ (X:Cx),X.prog=P→X.w=w→X.K=K→X.calm=true→∀ (i:Nat) (pins:List (Addr×Obj)) (s:Shared) (σ:St) (H:Hp) (E:Value→Shared→Prop),Inv X pins σ H s→(∀ b∈fp,FX X pins H b)→tn i s.heap→J.stop i H →
  wpAny (model P w) X.A (pyNext (.ref it)) (fun r s1=>r=none∧Inv X pins σ H s1) E s
 self:∀ (A:Around) (i:Nat) (s:Shared) (Q:Value→Shared→Prop) (E:Value→Shared→Prop),tn i s.heap→Q (.ref it) s→wpAny (model P w) A (pyIter (.ref it)) Q E s
abbrev TI:=St→Hp→(It→Hp→Prop)→Prop
def PIE(X:Cx)(pins:List (Addr×Obj))(σ:St)(tg:Expr)(R:It→Hp→Prop)(itv:Value)(s2:Shared):Prop:=
 ∃ (it:Addr) (fp:List Addr) (tn:Nat→Heap→Prop) (J:It) (H':Hp),itv= .ref it∧Inv X pins σ H' s2∧Turn X.prog X.w X.K tg J fp it tn∧tn 0 s2.heap∧(∀ b∈fp,FX X pins H' b)∧R J H'
def PI(X:Cx)(tg iter:Expr)(wi:TI):Prop:=
 ∀ (pins:List (Addr×Obj)) (s:Shared) (σ:St) (H:Hp) (R:It→Hp→Prop),Inv X pins σ H s→wi σ H R →
  wpAny (model X.prog X.w) X.A (eval iter X.env) (fun v s1=>wpAny (model X.prog X.w) X.A (pyIter v) (PIE X pins σ tg R) X.xe s1) X.xe s
theorem RR{M:Model}{A:Around}{E:Value→Shared→Prop}{s:Shared}{tg:Expr}{it:Addr}{u:Value}{o:Obj}{n:String}{vs:Array Value}{Q:Unit→Shared→Prop}(ho:s.heap.get? it=some o)(hc:o.cls= .type n)(hd:o.data= .fields vs)
  (hn:["enumerate","zip","dict_itemiterator","dict_reverseitemiterator","odict_iterator","itertools.zip_longest","itertools.pairwise"].contains n=false) (hQ:Q () s):wpAny M A (letOwnedTupleGo tg (.ref it) u) Q E s:=by
 unfold letOwnedTupleGo;cases tg <;> first
  | exact wpAny_pure hQ
  | (cases u <;> first
    | exact wpAny_pure hQ
    | (refine wpAny_bind (wpAny_load ho ?_);rw[hc,hd];show wpAny M A (if (["enumerate","zip","dict_itemiterator","dict_reverseitemiterator","odict_iterator","itertools.zip_longest","itertools.pairwise"].contains n&&vs[0]?==some (rawInt _))=true then _ else _) Q E s;rw[if_neg (by intro h;rw[hn,Bool.false_and] at h;cases h)];exact wpAny_pure hQ))
def Itl(K:W.Frag)(a:Addr):It:=
 ⟨fun i H=>∃ xs x,cT K H a xs∧xs[i]?=some x,fun i H x H'=>H'=H∧∀ xs,cT K H a xs→xs[i]?=some x,fun i H=>∃ xs,cT K H a xs∧xs.length≤i⟩
def Itt(K:W.Frag)(a:Addr):It:=
 ⟨fun i H=>∃ xs x,gF K H a xs∧xs[i]?=some x,fun i H x H'=>H'=H∧∀ xs,gF K H a xs→xs[i]?=some x,fun i H=>∃ xs,gF K H a xs∧xs.length≤i⟩
def X5(lo:Int)(n:Nat):It:=⟨fun i _=>i<n,fun i H x H'=>H'=H∧x= .int (lo+i),fun i _=>n≤i⟩
theorem SF{P:Program}{w:World}{K:W.Frag}{tg:Expr}(a it:Addr):Turn P w K tg (Itl K a) [it] it (fun i h=>h.IsListIter it a i) where
 mem:=by simp
 obj:=fun i h st b hb=>by
  have e:b=it:=by simpa using hb
  subst e;refine aC st fun o e c d=>?_;exact⟨o,e,fun v z=>by rw[d] at z;cases z⟩
 keep:=fun i h h' st k=>st.at fun o e=>k it (by simp) o e
 item:=by
  intro X hP hw hK hc i pins s σ H E I hf st hg;subst hP hw hK;refine aH hg fun xs x hq hx=>?_;refine aC (I.list hq) fun its rv p hz=>?_;refine aA (rv.get hx) fun u hu ru=>?_;refine aK (hf it (by simp)) fun f0 f1 f2 f3 f4 f5=>?_;refine wpAny_pyNext_list_item st p.isList (x:=u) (by simpa using hu) fun h' st' sb=>?_;have I1:Inv X pins σ H {s with heap:=h'}:=I.turned (t':=s.toks) (fun b o hb e=>(sb.2 b hb).trans e) f0 f1 f3 f4 f5;refine aC (id st') fun o e c d=>?_;exact⟨u,rfl,RR (s:={s with heap:=h'}) e c d (by decide) ⟨x,H,I1,ru,⟨rfl,fun ys hy=>by rw[I.WE hy hq];exact hx⟩,st',fun b hb=>(hf b hb).1⟩⟩
 done:=by
  intro X hP hw hK hc i pins s σ H E I hf st hg;subst hP hw hK;refine aA hg fun xs hq hx=>?_;refine aC (I.list hq) fun its rv p hz=>?_;refine aK (hf it (by simp)) fun f0 f1 f2 f3 f4 f5=>?_;have hl:=rv.length;exact wpAny_pyNext_list_end (I.ok.hd hc) st p.isList (by simp;lia) fun h' eb=>⟨rfl,I.turned (t':=s.toks) (fun b o hb e=>eb b o hb e) f0 f1 f3 f4 f5⟩
 self:=fun _ _ _ _ _ st h=>wpAny_pyIter_listiter st h
theorem NU{P:Program}{w:World}{K:W.Frag}{tg:Expr}(a it:Addr):Turn P w K tg (Itt K a) [it] it (fun i h=>h.IsTupleIter it a i) where
 mem:=by simp
 obj:=fun i h st b hb=>by
  have e:b=it:=by simpa using hb
  subst e;refine aC st fun o e c d=>?_;exact⟨o,e,fun v z=>by rw[d] at z;cases z⟩
 keep:=fun i h h' st k=>st.at fun o e=>k it (by simp) o e
 item:=by
  intro X hP hw hK hc i pins s σ H E I hf st hg;subst hP hw hK;refine aH hg fun xs x hq hx=>?_;refine aC (I.tuple hq) fun its rv p hz=>?_;refine aA (rv.get hx) fun u hu ru=>?_;refine aK (hf it (by simp)) fun f0 f1 f2 f3 f4 f5=>?_;refine wpAny_pyNext_tuple_item st (show s.heap.IsTuple a its.toArray from p) (x:=u) (by simpa using hu) fun h' st' sb=>?_;have I1:Inv X pins σ H {s with heap:=h'}:=I.turned (t':=s.toks) (fun b o hb e=>(sb.2 b hb).trans e) f0 f1 f3 f4 f5;refine aC (id st') fun o e c d=>?_;exact⟨u,rfl,RR (s:={s with heap:=h'}) e c d (by decide) ⟨x,H,I1,ru,⟨rfl,fun ys hy=>by rw[I.SG hy hq];exact hx⟩,st',fun b hb=>(hf b hb).1⟩⟩
 done:=by
  intro X hP hw hK hc i pins s σ H E I hf st hg;subst hP hw hK;refine aA hg fun xs hq hx=>?_;refine aC (I.tuple hq) fun its rv p hz=>?_;refine aK (hf it (by simp)) fun f0 f1 f2 f3 f4 f5=>?_;have hl:=rv.length;exact wpAny_pyNext_tuple_end (I.ok.hd hc) st (show s.heap.IsTuple a its.toArray from p) (by simp;lia) fun h' eb=>⟨rfl,I.turned (t':=s.toks) (fun b o hb e=>eb b o hb e) f0 f1 f3 f4 f5⟩
 self:=fun _ _ _ _ _ st h=>wpAny_pyIter_tupleiter st h
theorem NV{P:Program}{w:World}{K:W.Frag}{tg:Expr}(it:Addr)(lo:Int)(n:Nat):Turn P w K tg (X5 lo n) [it] it (fun i h=>IsRangeIter h it (lo+(i:Nat)*1) ((n:Int)-(i:Nat)) 1) where
 mem:=by simp
 obj:=fun i h st b hb=>by
  have e:b=it:=by simpa using hb
  subst e;exact⟨_,st,fun v z=>by
   have z':Data.fields _=Data.cell v:=z;cases z'⟩
 keep:=fun i h h' st k=>k it (by simp) _ st
 item:=by
  intro X hP hw hK hc i pins s σ H E I hf st hg;subst hP hw hK;refine aK (hf it (by simp)) fun f0 f1 f2 f3 f4 f5=>?_;have W:=Walks.range (prog:=X.prog) (w:=X.w) (I.ok.hd hc) it lo 1 n;refine W.item i s _ _ hg st fun v h' tk hv st' kk=>?_;obtain⟨t,rfl⟩:=hv;have I1:Inv X pins σ H {s with heap:=h',toks:=tk}:=I.turned (fun b o hb e=>kk b o (by simpa using hb) e) f0 f1 f3 f4 f5;refine⟨_,rfl,RR (s:={s with heap:=h',toks:=tk}) (n:="range_iterator") st' rfl rfl (by decide) ⟨.int (lo+i),H,I1,⟨t,?_⟩,⟨rfl,rfl⟩,st',fun b hb=>(hf b hb).1⟩⟩;rw[Int.mul_one]
 done:=by
  intro X hP hw hK hc i pins s σ H E I hf st hg;subst hP hw hK;refine aK (hf it (by simp)) fun f0 f1 f2 f3 f4 f5=>?_;exact wpAny_pyNext_range_end (I.ok.hd hc) st (by have:n≤i:=hg;lia) fun h' eb=>⟨rfl,I.turned (t':=s.toks) (fun b o hb e=>eb b o hb e) f0 f1 f3 f4 f5⟩
 self:=fun _ _ _ _ _ st h=>wpAny_pyIter_rangeiter st h
end L2
namespace L2
open PySem PySem.Spec PyProof.Rows
section
variable{X:Cx}{tg:Expr}
def WS(K:W.Frag)(tl:TE):TI:=fun σ H R=>tl σ H fun x H1=>∃ a,x= .ref a∧(∃ xs,cT K H1 a xs)∧R (Itl K a) H1
def aBD(K:W.Frag)(tl:TE):TI:=fun σ H R=>tl σ H fun x H1=>∃ a,x= .ref a∧(∃ xs,gF K H1 a xs)∧R (Itt K a) H1
theorem Q2{l:Expr}{tl:TE}(hl:PE X l tl):PI X tg l (WS X.K tl):=by
 intro pins s σ H R I h;refine eR (hl pins s σ H _ I h) fun v s1 bO=>aB bO fun x H1 I1 r1 q1=>?_;(refine aC q1 fun a e cA q=>?_;obtain⟨xs,hq⟩:=cA);subst e;cases r1;refine aC (I1.list hq) fun its rv p hz=>?_;refine wpAny_pyIter_list p.isList ?_;refine⟨s1.heap.objs.size,[s1.heap.objs.size],_,_,H1,rfl,I1.kept (t':=s1.toks) fun b o e=>Heap.get?_push_of_some _ e,SF a _,⟨_,Heap.get?_push_size _ rfl,rfl,rfl⟩,fun b hb=>?_,q⟩;have e:b=s1.heap.objs.size:=by simpa using hb
 subst e;exact I1.W4 (aFi _) (I1.hok.fresh (aFi _))
theorem aBb{l:Expr}{tl:TE}(hl:PE X l tl):PI X tg l (aBD X.K tl):=by
 intro pins s σ H R I h;refine eR (hl pins s σ H _ I h) fun v s1 bO=>aB bO fun x H1 I1 r1 q1=>?_;(refine aC q1 fun a e cA q=>?_;obtain⟨xs,hq⟩:=cA);subst e;cases r1;refine aC (I1.tuple hq) fun its rv p hz=>?_;refine wpAny_pyIter_tuple (show s1.heap.IsTuple a its.toArray from p) ?_;refine⟨s1.heap.objs.size,[s1.heap.objs.size],_,_,H1,rfl,I1.kept (t':=s1.toks) fun b o e=>Heap.get?_push_of_some _ e,NU a _,⟨_,Heap.get?_push_size _ rfl,rfl,rfl⟩,fun b hb=>?_,q⟩;have e:b=s1.heap.objs.size:=by simpa using hb
 subst e;exact I1.W4 (aFi _) (I1.hok.fresh (aFi _))
theorem LD{pins:List (Addr×Obj)}{σ:St}{H:Hp}{s:Shared}{R:It→Hp→Prop}{E:Value→Shared→Prop}{lo hi:Int}{t u v:Tok}{tk:Nat}(I:Inv X pins σ H s)(h1: -(2 ^ 62)≤lo)(h2:lo<2 ^ 62)(h3: -(2 ^ 62)≤hi)(h4:hi<2 ^ 62)
  (q:R (X5 lo (hi-lo).toNat) H):wpAny (model X.prog X.w) X.A (pyIter (.ref s.heap.objs.size)) (PIE X pins σ tg R) E {s with heap:=s.heap.push {cls:= .type "range",data:= .fields #[.int lo t,.int hi u,.int 1 v]},toks:=tk}:=by
 refine wpAny_pyIter_range (IsRange.new ..) (small_one h1 h2 h3 h4) ?_;have I1:Inv X pins σ H {s with heap:=s.heap.push {cls:= .type "range",data:= .fields #[.int lo t,.int hi u,.int 1 v]},toks:=tk}:=I.kept fun b o e=>Heap.get?_push_of_some _ e;refine⟨(s.heap.push {cls:= .type "range",data:= .fields #[.int lo t,.int hi u,.int 1 v]}).objs.size,[(s.heap.push {cls:= .type "range",data:= .fields #[.int lo t,.int hi u,.int 1 v]}).objs.size],_,_,H,rfl,
  I1.kept (t':=tk) fun b o e=>Heap.get?_push_of_some _ e,NV _ lo (hi-lo).toNat,?_,fun b hb=>?_,q⟩
 ·have e1:lo+((0:Nat):Int)*1=lo:=by simp
  have e2:(((hi-lo).toNat:Nat):Int)-((0:Nat):Int)=Builtin.Range.rangeSize lo hi 1:=by rw[rangeSize_one];split <;> lia
  show IsRangeIter _ _ (lo+((0:Nat):Int)*1) ((((hi-lo).toNat:Nat):Int)-((0:Nat):Int)) 1;rw[e1,e2];exact Heap.get?_push_size _ rfl
 ·have e:b=(s.heap.push {cls:= .type "range",data:= .fields #[.int lo t,.int hi u,.int 1 v]}).objs.size:=by simpa using hb
  subst e;exact I1.W4 (aFi _) (I1.hok.fresh (aFi _))
def WR(ta:TA):TI:=fun σ H R=>ta σ H fun vs H1=>∃ j:Int,vs=[.int j]∧ -(2 ^ 62)≤j∧j<2 ^ 62∧R (X5 0 j.toNat) H1
def WQ(ta:TA):TI:=fun σ H R=>ta σ H fun vs H1=>∃ i j:Int,vs=[.int i,.int j]∧(-(2 ^ 62)≤i∧i<2 ^ 62∧ -(2 ^ 62)≤j∧j<2 ^ 62)∧R (X5 i (j-i).toNat) H1
theorem eF{a:Expr}{ta:TA}{p pos:Pos}(hg:Gl X "range")(hm:X.mg "range"=none)(ha:PA X [a] ta)(hs:starEach [a] X.env=[(false,eval a X.env)]:=by rfl):PI X tg (.Call (.Name "range" p) [a] [] pos) (WR ta):=by
 intro pins s σ H R I h;refine Call_ (DW I hg hm boot_range (PyProof.Rows.callWith_type1 (eR (ha pos pins s σ H _ I h) fun us s1 ⟨vs,H1,I1,r1,q1⟩=>?_) hs rfl));obtain⟨j,e,q1,q2,q⟩:=q1;subst e
 cases r1 with
 | cons r rr=>
  cases rr;obtain⟨t,rfl⟩:=r;exact call_range_1 (LD I1 (by lia) (by lia) q1 q2 (by simpa using q))
theorem sT{a b:Expr}{ta:TA}{p pos:Pos}(hg:Gl X "range")(hm:X.mg "range"=none)(ha:PA X [a,b] ta)(hs:starEach [a,b] X.env=[(false,eval a X.env),(false,eval b X.env)]:=by rfl)(hs2:starEach [b] X.env=[(false,eval b X.env)]:=by rfl):
  PI X tg (.Call (.Name "range" p) [a,b] [] pos) (WQ ta):=by
 intro pins s σ H R I h;refine Call_ (DW I hg hm boot_range (PyProof.Rows.callWith_type1 (eR (ha pos pins s σ H _ I h) fun us s1 ⟨vs,H1,I1,r1,q1⟩=>?_) (by rw[hs,hs2]) (by rw[hs2];rfl)));obtain⟨i,j,e,⟨q1,q2,q3,q4⟩,q⟩:=q1;subst e
 cases r1 with
 | cons r rr=>
  cases rr with
  | cons r' rr=>
   cases rr;obtain⟨t,rfl⟩:=r;obtain⟨t',rfl⟩:=r';exact call_range_2 (LD I1 q1 q2 q3 q4 q)
def aCg(wi:TI)(g:TG)(tb:TS):TS:=fun D σ H=>wi σ H fun J H1=>∃ W:Nat→Nat→St→Hp→Prop,(∃ m,W 0 m σ H1)∧∀ i m σ H,W i m σ H →
 (J.stop i H∧D.nx σ H)∨(J.go i H∧∃ N:St→Hp→Prop,(∀ σ' H',N σ' H'→∃ m',m'<m∧W (i+1) m' σ' H')∧∀ x H',J.UL i H x H'→g x σ H' fun σ2 H2=>tb {D with nx:=N,ct:=N,bk:=D.nx} σ2 H2)
def DA(fp:List Addr)(h:Heap):List (Addr×Obj):=fp.filterMap fun b=>(h.get? b).map fun o=>(b,o)
theorem vD{fp:List Addr}{h:Heap}{b:Addr}{o:Obj}(hb:b∈fp)(e:h.get? b=some o):(b,o)∈DA fp h:=List.mem_filterMap.mpr ⟨b,hb,by rw[e];rfl⟩
theorem S3{fp:List Addr}{h:Heap}{p:Addr×Obj}(hp:p∈DA fp h):p.1∈fp∧h.get? p.1=some p.2:=by
 refine aA (List.mem_filterMap.mp hp) fun b hb e=>?_
 cases q:h.get? b with
 | none=>rw[q] at e;cases e
 | some o=>
  rw[q] at e;have e':(b,o)=p:=aFa e;subst e';exact⟨hb,q⟩
theorem Inv.pinned{pins:List (Addr×Obj)}{σ:St}{H:Hp}{s:Shared}{fp:List Addr}(I:Inv X pins σ H s)(hf:∀ b∈fp,FX X pins H b)(ho:∀ b∈fp,∃ o,s.heap.get? b=some o∧∀ v,o.data≠.cell v):Inv X (pins++DA fp s.heap) σ H s:=
 I.Q1 fun p hp=>(List.mem_append.mp hp).elim (fun z=>I.pin p (aFR _ z)) fun z=>by
  obtain⟨hb,e⟩:=S3 z;refine aG (hf p.1 hb) fun f0 f1 f2 _=>?_;refine aA (ho p.1 hb) fun o e' d=>?_;rw[e] at e';cases e';exact⟨e,f0,f1,f2,d⟩
theorem Inv.vM{pins pl:List (Addr×Obj)}{σ:St}{H:Hp}{s:Shared}(I:Inv X (pins++pl) σ H s):Inv X pins σ H s:=I.Q1 fun p hp=>I.pin p (aFR _ (List.mem_append_left _ hp))
theorem jD{iter:Expr}{body:List Stmt}{wi:TI}{g:TG}{tb:TS}{pos:Pos}(hp:PassesOwn (model X.prog X.w) X.A X.env X.xe)(hc:X.calm=true)(hi:PI X tg iter wi)(hg:PG X tg g)(hb:MZ X body tb)
  (hs:∀ x,foldedSetIterable iter X.env x=pure x:=by intro _;rfl):PS X (.For tg iter body [] pos) (aCg wi g tb):=by
 intro pins s σ H D I h;refine wpAny_For (eR (hi pins s σ H _ I h) fun v s1 h1=>eR h1 fun itv s2 h2=>?_) hs;(refine aE h2 fun it fp tn bO=>?_;refine aI bO fun J H2 e I2 T st2 f2 cA=>?_;refine aA cA fun W dF turn=>?_;obtain⟨m0,w0⟩:=dF);subst e;have stat:∀ {H':Hp},(∀ b∈fp,H' b=none)→∀ b∈fp,FX X pins H' b:=fun hn b hb=>⟨hn b hb,(f2 b hb).2⟩;refine codeAny_forLoop_any (fun n s'=>∃ i σ' H',Inv X pins σ' H' s'∧tn i s'.heap∧(∀ b∈fp,H' b=none)∧W i n σ' H') ?_ m0 ⟨0,σ,H2,I2,st2,fun b hb=>(f2 b hb).1,w0⟩;rintro n s3 ⟨i,σ3,H3,I3,st3,fr3,w3⟩;rcases turn i n σ3 H3 w3 with ⟨stop,qn⟩ | ⟨go,N,hN,step⟩
 ·refine wpAny_passesOwn hp (eR (T.done X rfl rfl rfl hc i pins s3 σ3 H3 X.xe I3 (stat fr3) st3 stop) fun r s4 eX=>aD eX fun hr I4=>?_);subst hr;exact wpAny_execs_nil ⟨σ3,H3,I4,qn⟩
 ·refine wpAny_passesOwn hp (eR (T.item X rfl rfl rfl hc i pins s3 σ3 H3 X.xe I3 (stat fr3) st3 go) fun r s4 hE=>aA hE fun u hr h4=>?_);subst hr;refine wpAny_passesOwn hp (eR h4 fun _ s5 p9=>aT p9 fun x H5 I5 r5 y5 st5 fr5=>?_);have I5':=I5.pinned (stat fr5) (T.obj _ _ st5);refine wpAny_passesOwn hp (eR (hg _ s5 σ3 H5 x u _ I5' r5 (step x H5 y5)) fun _ s6 AS=>aH AS fun σ6 H6 I6 q6=>?_);refine wpAny_passesOwn hp (eR (hb _ s6 σ6 H6 _ I6 q6) fun f s7 q7=>?_);have again:∀ {σ7:St} {H7:Hp},Inv X (pins++DA fp s5.heap) σ7 H7 s7→N σ7 H7→∃ m,m<n∧∃ i σ' H',Inv X pins σ' H' s7∧tn i s7.heap∧(∀ b∈fp,H' b=none)∧W i m σ' H':=fun {σ7 H7} I7 n7=>by
   refine aA (hN σ7 H7 n7) fun m' hm w7=>?_;refine⟨m',hm,i+1,σ7,H7,I7.vM,T.keep _ _ _ st5 fun b hb o e=>(I7.pin (b,o) (aFR _ (aFR _ (vD hb e)))).1,fun b hb=>?_,w7⟩;refine aA (T.obj _ _ st5 b hb) fun o e d=>?_;exact(I7.pin (b,o) (aFR _ (aFR _ (vD hb e)))).2.1
  cases f with
  | next=>refine aH q7 fun σ7 H7 I7 n7=>?_;exact again I7 n7
  | cont=>refine aH q7 fun σ7 H7 I7 n7=>?_;exact again I7 n7
  | brk=>refine aH q7 fun σ7 H7 I7 q7=>?_;exact⟨σ7,H7,I7.vM,q7⟩
  | ret v=>refine aJ q7 fun x7 σ7 H7 I7 r7 q7=>?_;exact⟨x7,σ7,H7,I7.vM,r7,q7⟩
end
theorem aCP{K:W.Frag}{a:Addr}{xs:List V}{g:TG}{tb:TS}{D:Ends}{σ:St}{H:Hp}(Pv:Nat→St→Hp→Prop)(h0:Pv 0 σ H)(hl:∀ i σ H,i≤xs.length→Pv i σ H→cT K H a xs)
  (hs:∀ i x σ H,xs[i]?=some x→Pv i σ H→g x σ H fun σ2 H2=>tb {D with nx:=Pv (i+1),ct:=Pv (i+1),bk:=D.nx} σ2 H2) (hd:∀ σ H,Pv xs.length σ H→D.nx σ H):
  ∃ W:Nat→Nat→St→Hp→Prop,(∃ m,W 0 m σ H)∧∀ i m σ H,W i m σ H →
   ((Itl K a).stop i H∧D.nx σ H)∨((Itl K a).go i H∧∃ N:St→Hp→Prop,(∀ σ' H',N σ' H'→∃ m',m'<m∧W (i+1) m' σ' H')∧∀ x H',(Itl K a).UL i H x H'→g x σ H' fun σ2 H2=>tb {D with nx:=N,ct:=N,bk:=D.nx} σ2 H2):=by
 refine⟨fun i m σ H=>m=xs.length-i∧i≤xs.length∧Pv i σ H,⟨xs.length,by simp,aFx _,h0⟩,?_⟩;rintro i m σ H ⟨rfl,hi,p⟩;have q:=hl i σ H hi p;by_cases hlt:i<xs.length
 ·refine .inr ⟨⟨xs,xs[i],q,by simp [hlt]⟩,Pv (i+1),fun σ' H' p'=>⟨xs.length-(i+1),by lia,rfl,hlt,p'⟩,fun x H' y=>?_⟩;obtain⟨e,y⟩:=y;subst e;exact hs i x σ _ (y xs q) p
 ·have e:i=xs.length:=by lia
  subst e;exact .inl ⟨⟨xs,q,aFi _⟩,hd σ H p⟩
theorem ZX{K:W.Frag}{a:Addr}{xs:List V}{g:TG}{tb:TS}{D:Ends}{σ:St}{H:Hp}(Pv:Nat→St→Hp→Prop)(h0:Pv 0 σ H)(hl:∀ i σ H,i≤xs.length→Pv i σ H→gF K H a xs)
  (hs:∀ i x σ H,xs[i]?=some x→Pv i σ H→g x σ H fun σ2 H2=>tb {D with nx:=Pv (i+1),ct:=Pv (i+1),bk:=D.nx} σ2 H2) (hd:∀ σ H,Pv xs.length σ H→D.nx σ H):
  ∃ W:Nat→Nat→St→Hp→Prop,(∃ m,W 0 m σ H)∧∀ i m σ H,W i m σ H →
   ((Itt K a).stop i H∧D.nx σ H)∨((Itt K a).go i H∧∃ N:St→Hp→Prop,(∀ σ' H',N σ' H'→∃ m',m'<m∧W (i+1) m' σ' H')∧∀ x H',(Itt K a).UL i H x H'→g x σ H' fun σ2 H2=>tb {D with nx:=N,ct:=N,bk:=D.nx} σ2 H2):=by
 refine⟨fun i m σ H=>m=xs.length-i∧i≤xs.length∧Pv i σ H,⟨xs.length,by simp,aFx _,h0⟩,?_⟩;rintro i m σ H ⟨rfl,hi,p⟩;have q:=hl i σ H hi p;by_cases hlt:i<xs.length
 ·refine .inr ⟨⟨xs,xs[i],q,by simp [hlt]⟩,Pv (i+1),fun σ' H' p'=>⟨xs.length-(i+1),by lia,rfl,hlt,p'⟩,fun x H' y=>?_⟩;obtain⟨e,y⟩:=y;subst e;exact hs i x σ _ (y xs q) p
 ·have e:i=xs.length:=by lia
  subst e;exact .inl ⟨⟨xs,q,aFi _⟩,hd σ H p⟩
theorem fM{lo:Int}{n:Nat}{g:TG}{tb:TS}{D:Ends}{σ:St}{H:Hp}(Pv:Nat→St→Hp→Prop)(h0:Pv 0 σ H)
  (hs:∀ i σ H,i<n→Pv i σ H→g (.int (lo+i)) σ H fun σ2 H2=>tb {D with nx:=Pv (i+1),ct:=Pv (i+1),bk:=D.nx} σ2 H2) (hd:∀ σ H,Pv n σ H→D.nx σ H):
  ∃ W:Nat→Nat→St→Hp→Prop,(∃ m,W 0 m σ H)∧∀ i m σ H,W i m σ H →
   ((X5 lo n).stop i H∧D.nx σ H)∨((X5 lo n).go i H∧∃ N:St→Hp→Prop,(∀ σ' H',N σ' H'→∃ m',m'<m∧W (i+1) m' σ' H')∧∀ x H',(X5 lo n).UL i H x H'→g x σ H' fun σ2 H2=>tb {D with nx:=N,ct:=N,bk:=D.nx} σ2 H2):=by
 refine⟨fun i m σ H=>m=n-i∧i≤n∧Pv i σ H,⟨n,by simp,aFx _,h0⟩,?_⟩;rintro i m σ H ⟨rfl,hi,p⟩;by_cases hlt:i<n
 ·refine .inr ⟨hlt,Pv (i+1),fun σ' H' p'=>⟨n-(i+1),by lia,rfl,hlt,p'⟩,fun x H' y=>?_⟩;obtain⟨e,y⟩:=y;subst e y;exact hs i σ _ hlt p
 ·have e:i=n:=by lia
  subst e;exact .inl ⟨aFi _,hd σ H p⟩
end L2
namespace L2
open PySem PySem.Spec PyProof.Rows
abbrev R2:=V→V→Hp→VK→Prop
def AQ(X:Cx)(f:Value→Value→Sem Value)(r:R2):Prop:=
 ∀ (pins:List (Addr×Obj)) (s:Shared) (σ:St) (H:Hp) (x y:V) (v u:Value) (Q:VK),Inv X pins σ H s→RelV x v→RelV y u→r x y H Q →
  wpAny (model X.prog X.w) X.A (f v u) (EP X pins σ Q) X.xe s
def UnR(X:Cx)(f:Value→Sem Value)(r:V→Hp→VK→Prop):Prop:=
 ∀ (pins:List (Addr×Obj)) (s:Shared) (σ:St) (H:Hp) (x:V) (v:Value) (Q:VK),Inv X pins σ H s→RelV x v→r x H Q →
  wpAny (model X.prog X.w) X.A (f v) (EP X pins σ Q) X.xe s
def AR(X:Cx)(f:Value)(r:List V→Hp→VK→Prop):Prop:=
 ∀ (pins:List (Addr×Obj)) (s:Shared) (σ:St) (H:Hp) (xs:List V) (us:List Value) (Q:VK),Inv X pins σ H s→Vals xs us→r xs H Q →
  wpAny (model X.prog X.w) X.A (call f us) (EP X pins σ Q) X.xe s
def aEH(X:Cx)(r:V→Hp→(Bool→Hp→Prop)→Prop):Prop:=
 ∀ (pins:List (Addr×Obj)) (s:Shared) (σ:St) (H:Hp) (x:V) (v:Value) (Q:Bool→Hp→Prop),Inv X pins σ H s→RelV x v→r x H Q →
  wpAny (model X.prog X.w) X.A (truthy v) (TP X pins σ Q) X.xe s
def tOp(r:R2)(ta tb:TE):TE:=fun σ H Q=>ta σ H fun x H1=>tb σ H1 fun y H2=>r x y H2 Q
def tUn(r:V→Hp→VK→Prop)(ta:TE):TE:=fun σ H Q=>ta σ H fun x H1=>r x H1 Q
def rI(C:Int→Int→Prop)(g:Int→Int→V):R2:=fun x y H Q=>∃ i j,x= .int i∧y= .int j∧C i j∧Q (g i j) H
def UN(g:Int→Int→V):R2:=fun x y H Q=>∃ i j,x= .int i∧y= .int j∧Q (g i j) H
def rU(g:Int→V):V→Hp→VK→Prop:=fun x H Q=>∃ i,x= .int i∧Q (g i) H
section
variable{X:Cx}{a b c:Expr}{ta tb tc:TE}{pos:Pos}
theorem aBP(ha:PE X a ta)(hb:PE X b tb){pins:List (Addr×Obj)}{s:Shared}{σ:St}{H:Hp}{R:V→V→Hp→Prop}(I:Inv X pins σ H s)
  (h:ta σ H fun x H1=>tb σ H1 fun y H2=>R x y H2) {Q:Value→Shared→Prop} {f:Value→Value→Sem Value}
  (hf:∀ v u s2 x y H2,Inv X pins σ H2 s2→RelV x v→RelV y u→R x y H2→wpAny (model X.prog X.w) X.A (f v u) Q X.xe s2):
  wpAny (model X.prog X.w) X.A (eval a X.env) (fun v s₁=>wpAny (model X.prog X.w) X.A (eval b X.env) (fun u s₂=>wpAny (model X.prog X.w) X.A (f v u) Q X.xe s₂) X.xe s₁) X.xe s:=by
 refine eR (ha pins s σ H _ I h) fun v s1 bO=>aB bO fun x H1 I1 r1 q1=>?_;refine eR (hb pins s1 σ H1 _ I1 q1) fun u s2 cA=>aB cA fun y H2 I2 r2 q2=>?_;exact hf v u s2 x y H2 I2 r1 r2 q2
theorem bH{op:Operator}{r:R2}(ho:AQ X (binaryOp op) r)(ha:PE X a ta)(hb:PE X b tb):PE X (.BinOp a op b pos) (tOp r ta tb):=by
 intro pins s σ H Q I h;exact wpAny_BinOp (aBP ha hb I h fun v u s2 x y H2 I2 rx ry q=>ho pins s2 σ H2 x y v u Q I2 rx ry q)
theorem fD{op:UnaryOp}{r:V→Hp→VK→Prop}(ho:UnR X (unaryOp op) r)(ha:PE X a ta):PE X (.UnaryOp op a pos) (tUn r ta):=by
 intro pins s σ H Q I h;exact UnaryOp_ (eR (ha pins s σ H _ I h) fun v s1 bO=>aB bO fun x H1 I1 r1 q1=>ho pins s1 σ H1 x v Q I1 r1 q1)
theorem opI{f:Value→Value→Sem Value}{C:Int→Int→Prop}{g:Int→Int→Int}
  (rule:∀ (i j:Int) (t u:Tok) (s:Shared) (Q:Value→Shared→Prop) (E:Value→Shared→Prop),C i j→Q (.int (g i j) s.toks) {s with toks:=s.toks+1}→wpAny (model X.prog X.w) X.A (f (.int i t) (.int j u)) Q E s):
  AQ X f (rI C fun i j=> .int (g i j)):=by
 intro pins s σ H x y v u Q I rx ry h;(refine aN h fun i j bO cA hc q=>?_;subst bO;subst cA);obtain⟨t,rfl⟩:=rx;obtain⟨t',rfl⟩:=ry;exact rule i j t t' s _ _ hc ⟨.int (g i j),H,I.tok _,⟨_,rfl⟩,q⟩
theorem OS{f:Value→Value→Sem Value}{g:Int→Int→Int}
  (rule:∀ (i j:Int) (t u:Tok) (s:Shared) (Q:Value→Shared→Prop) (E:Value→Shared→Prop),Q (.int (g i j) s.toks) {s with toks:=s.toks+1}→wpAny (model X.prog X.w) X.A (f (.int i t) (.int j u)) Q E s):
  AQ X f (UN fun i j=> .int (g i j)):=by
 intro pins s σ H x y v u Q I rx ry h;(refine aB h fun i j bO cA q=>?_;subst bO;subst cA);obtain⟨t,rfl⟩:=rx;obtain⟨t',rfl⟩:=ry;exact rule i j t t' s _ _ ⟨.int (g i j),H,I.tok _,⟨_,rfl⟩,q⟩
theorem aDP{f:Value→Value→Sem Value}{g:Int→Int→Bool}
  (rule:∀ (i j:Int) (t u:Tok) (s:Shared) (Q:Value→Shared→Prop) (E:Value→Shared→Prop),Q (.bool (g i j)) s→wpAny (model X.prog X.w) X.A (f (.int i t) (.int j u)) Q E s):
  AQ X f (UN fun i j=> .bl (g i j)):=by
 intro pins s σ H x y v u Q I rx ry h;(refine aB h fun i j bO cA q=>?_;subst bO;subst cA);obtain⟨t,rfl⟩:=rx;obtain⟨t',rfl⟩:=ry;exact rule i j t t' s _ _ ⟨.bl (g i j),H,I,rfl,q⟩
def aEK(i j:Int):Prop:=0<j∧j<1073741824
def aBY(i j:Int):Prop:=0≤j∧j≤1000000∧i.natAbs<2 ^ 64
def aAh(i j:Int):Prop:=(-(2 ^ 64)<i∧i<2 ^ 64)∨(-(2 ^ 64)<j∧j<2 ^ 64)
theorem aAh.ok{i j:Int}(h:aAh i j):IntMulOk i j:=by
 rcases h with ⟨h1,h2⟩ | ⟨h1,h2⟩
 ·exact .of_left (intBits_le_64 h1 h2)
 ·exact .of_right (intBits_le_64 h1 h2)
theorem NT(k:Nat):(0:Int)≤2 ^ k:=by
 rw[two_pow_cast];exact Int.natCast_nonneg _
theorem bX:AQ X (binaryOp .Add) (UN fun i j=> .int (i+j)):=OS fun _ _ _ _ _ _ _ q=>add_int q
theorem eU:AQ X (binaryOp .Sub) (UN fun i j=> .int (i-j)):=OS fun _ _ _ _ _ _ _ q=>sub_int q
theorem eC:AQ X (binaryOp .Mult) (rI aAh fun i j=> .int (i*j)):=opI fun _ _ _ _ _ _ _ hc q=>mul_int q hc.ok
theorem pP:AQ X (binaryOp .FloorDiv) (rI aEK fun i j=> .int (i / j)):=opI fun i j _ _ _ _ _ hc q=>by
 have h1:(0:Int)<j:=hc.1;have h2:j<1073741824:=hc.2;exact floordiv_int (by lia) (by rw[Int.fdiv_eq_ediv_of_nonneg i (by lia)];exact q) (.inl (PyProof.noPylong_small (by lia)))
theorem yP:AQ X (binaryOp .Mod) (rI (fun _ j=>0<j) fun i j=> .int (i % j)):=opI fun i j _ _ _ _ _ hc q=>by
 have h1:(0:Int)<j:=hc;exact mod_int' (by lia) (by rw[Int.fmod_eq_emod_of_nonneg i (by lia)];exact q)
theorem rL:AQ X (binaryOp .LShift) (rI aBY fun i j=> .int (i*2 ^ j.toNat)):=opI fun _ _ _ _ _ _ _ hc q=>lshift_int_small hc.1 hc.2.1 hc.2.2 q
theorem pO:AQ X (binaryOp .RShift) (rI (fun _ j=>0≤j) fun i j=> .int (i / 2 ^ j.toNat)):=opI fun i j _ _ _ _ _ hc q=>
 rshift_int hc (by rw[Int.fdiv_eq_ediv_of_nonneg i (NT _)];exact q)
theorem gB:AQ X (binaryOp .BitAnd) (UN fun i j=> .int (Builtin.bitAnd i j)):=OS fun _ _ _ _ _ _ _ q=>and_int q
theorem uA:AQ X (binaryOp .BitOr) (UN fun i j=> .int (Builtin.bitOr i j)):=OS fun _ _ _ _ _ _ _ q=>or_int q
theorem VV:AQ X (binaryOp .BitXor) (UN fun i j=> .int (Builtin.bitXor i j)):=OS fun _ _ _ _ _ _ _ q=>xor_int q
theorem xC:AQ X (inplaceOp .Add) (UN fun i j=> .int (i+j)):=OS fun _ _ _ _ _ _ _ q=>iadd_int q
theorem RN:AQ X (inplaceOp .Sub) (UN fun i j=> .int (i-j)):=OS fun _ _ _ _ _ _ _ q=>isub_int q
theorem ZO:AQ X (inplaceOp .Mult) (rI aAh fun i j=> .int (i*j)):=opI fun _ _ _ _ _ _ _ hc q=>imul_int q hc.ok
theorem unI{f:Value→Sem Value}{g:Int→Int}
  (rule:∀ (i:Int) (t:Tok) (s:Shared) (Q:Value→Shared→Prop) (E:Value→Shared→Prop),Q (.int (g i) s.toks) {s with toks:=s.toks+1}→wpAny (model X.prog X.w) X.A (f (.int i t)) Q E s):
  UnR X f (rU fun i=> .int (g i)):=by
 intro pins s σ H x v Q I rx h;(refine aA h fun i bO q=>?_;subst bO);obtain⟨t,rfl⟩:=rx;exact rule i t s _ _ ⟨.int (g i),H,I.tok _,⟨_,rfl⟩,q⟩
theorem dZ:UnR X (unaryOp .USub) (rU fun i=> .int (-i)):=unI fun _ _ _ _ _ q=>neg_int q
end
section
variable{X:Cx}{a b c:Expr}{ta tb tc:TE}{pos:Pos}
theorem aAs:AQ X (compareOp .LtE) (UN fun i j=> .bl (decide (i≤j))):=aDP fun _ _ _ _ _ _ _ q=>le_int q
theorem Q6{op:CmpOp}{r:R2}(ho:AQ X (compareOp op) r)(ha:PE X a ta)(hb:PE X b tb)(hm:behindInMarks op b=false):PE X (.Compare a [op] [b] pos) (tOp r ta tb):=by
 intro pins s σ H Q I h;exact wpAny_Compare1 (aBP ha hb I h fun v u s2 x y H2 I2 rx ry q=>ho pins s2 σ H2 x y v u Q I2 rx ry q) hm
def U1(t:TE):TT:=fun σ H Q=>t σ H fun x H'=>∃ k,x= .bl k∧Q k H'
theorem BE{op:CmpOp}{r:R2}(ho:AQ X (compareOp op) r)(ha:PE X a ta)(hb:PE X b tb)(hm:behindInMarks op b=false):PT X (.Compare a [op] [b] pos) (U1 (tOp r ta tb)):=by
 intro pins s σ H Q I h;refine wpAny_isTrue_Compare1 (eR (ha pins s σ H _ I h) fun v s1 bO=>aB bO fun x H1 I1 r1 q1=>eR (hb pins s1 σ H1 _ I1 q1) fun u s2 cA=>aB cA fun y H2 I2 r2 q2=>
  eR (ho pins s2 σ H2 x y v u _ I2 r1 r2 q2) fun c s3 dF=>aB dF fun z H3 I3 r3 eX=>aA eX fun k e q3=>?_) hm
 subst e;cases r3;exact wpAny_truthy_bool ⟨H3,I3,q3⟩
def N3(r r':R2)(ta tb tc:TE):TE:=fun σ H Q=>ta σ H fun x H1=>tb σ H1 fun y H2=>r x y H2 fun z H3=>∃ k,z= .bl k ∧
 (if k=true then tc σ H3 fun w' H4=>r' y w' H4 Q else Q (.bl false) H3)
theorem VT{op op':CmpOp}{r r':R2}(ho:AQ X (compareOp op) r)(ho':AQ X (compareOp op') r')(ha:PE X a ta)(hb:PE X b tb)(hc:PE X c tc)
  (hm:lastMarks [op,op'] [b,c]=false:=by with_unfolding_all rfl):PE X (.Compare a [op,op'] [b,c] pos) (N3 r r' ta tb tc):=by
 intro pins s σ H Q I h;refine Compare_chain (eR (ha pins s σ H _ I h) fun v s1 bO=>aB bO fun x H1 I1 r1 q1=>chain_link (eR (hb pins s1 σ H1 _ I1 q1) fun u s2 cA=>aB cA fun y H2 I2 r2 q2=>
  eR (ho pins s2 σ H2 x y v u _ I2 r1 r2 q2) fun d s3 dF=>aB dF fun z H3 I3 r3 eX=>aA eX fun k e q3=>?_)) hm
 subst e;cases r3;refine wpAny_truthy_bool ?_
 cases k with
 | false=>exact ite_ff ⟨.bl false,H3,I3,rfl,q3⟩
 | true=>exact ite_tt (chain_last (eR (hc pins s3 σ H3 _ I3 q3) fun w' s4 hE=>aB hE fun z' H4 I4 r4 q4=>ho' pins s4 σ H4 y z' u w' Q I4 r2 r4 q4))
def aCX(K:W.Frag)(x:V)(H:Hp)(k:Bool):Prop:=
 match x with
 | .non=>k=false
 | .bl b=>k=b
 | .int i=>k=(i !=0)
 | .str y=>y.length≤sizeLine∧k=((y.length:Int) !=0)
 | .T9 y=>y.size≤sizeLine∧k=((y.size:Int) !=0)
 | .ref p=>(∃ xs,cT K H p xs∧k= !xs.isEmpty)∨(∃ xs,gF K H p xs∧k= !xs.isEmpty)∨∃ kvs,H p=some (.dK kvs)∧k= !kvs.isEmpty
 | _=>False
theorem PP{κ:Type}{kvs:List (κ×V)}{vs:List (κ×Value)}(r:KV kvs vs):(!vs.isEmpty)= !kvs.isEmpty:=by
 cases r <;> rfl
theorem D8{xs:List V}{its:List Value}(r:Vals xs its):(!its.toArray.isEmpty)= !xs.isEmpty:=by
 cases r <;> simp
theorem DV:(sizeLine:Nat)<2 ^ 63:=by rw[sizeLine_eq];decide
theorem aAA:aEH X (fun x H Q=>∃ k,aCX X.K x H k∧Q k H):=by
 intro pins s σ H x v Q I rx h;refine aA h fun k e q=>?_;have hl:=DV;have hs:sizeLine=16777216:=sizeLine_eq
 cases x with
 | non=>
  cases rx;have e':k=false:=e;subst e';exact truthy_none ⟨H,I,q⟩
 | bl b=>
  cases rx;have e':k=b:=e;subst e';exact wpAny_truthy_bool ⟨H,I,q⟩
 | int i=>
  obtain⟨t,rfl⟩:=rx;have e':k=(i !=0):=e;subst e';exact PySem.P.truthy_int ⟨H,I,q⟩
 | str y=>
  obtain⟨t,rfl⟩:=rx;obtain⟨hy,e'⟩:y.length≤sizeLine∧k=((y.length:Int) !=0):=e;subst e';exact PySem.P.truthy_str (by lia) ⟨H,I.tok _,q⟩
 | T9 y=>
  obtain⟨t,rfl⟩:=rx;obtain⟨hy,e'⟩:y.size≤sizeLine∧k=((y.size:Int) !=0):=e;subst e';exact W.truthy_bytes (by lia) ⟨H,I.tok _,q⟩
 | ref p=>
  cases rx;have e':(∃ xs,cT X.K H p xs∧k= !xs.isEmpty)∨(∃ xs,gF X.K H p xs∧k= !xs.isEmpty)∨∃ kvs,H p=some (.dK kvs)∧k= !kvs.isEmpty:=e;rcases e' with ⟨xs,hx,e'⟩ | ⟨xs,hx,e'⟩ | ⟨kvs,hx,e'⟩
  ·subst e';refine aC (I.list hx) fun its r pl hz=>?_;have hlen:=r.length;exact wpAny_truthy_list pl.isList (by simp only[aFo];lia) ⟨H,I.tok _,by rw[D8 r];exact q⟩
  ·subst e';refine aC (I.tuple hx) fun its r pl hz=>?_;have hlen:=r.length;exact truthy_tuple pl (by simp only[aFo];lia) ⟨H,I.tok _,by rw[D8 r];exact q⟩
  ·subst e';obtain⟨hz,hS,vs,r,m⟩:kvs.length≤sizeLine∧(p==sysModules)=false∧∃ vs,KV kvs vs∧s.heap.DictOf (nJ X.prog X.w) p vs:=I.hok p _ hx;have hlen:kvs.length=vs.length:=Paired.length r;exact wpAny_truthy_dict hS m (by lia) ⟨H,I.tok _,by rw[PP r];exact q⟩
 | _=>exact(show False from e).elim
theorem wJ(ha:PE X a ta)(he:∀ whole,isTrue a X.env whole=(do let v ←whole;standAt a.pos;holding [v] (truthy v))):
  PT X a (fun σ H Q=>ta σ H fun x H'=>∃ k,aCX X.K x H' k∧Q k H'):=by
 intro pins s σ H Q I h;exact isTrue_plain (eR (ha pins s σ H _ I h) fun v s1 bO=>aB bO fun x H1 I1 r1 q1=>aAA pins s1 σ H1 x v Q I1 r1 q1) (he _)
theorem vals1{x:V}{us:List Value}(r:Vals [x] us):∃ u,us=[u]∧RelV x u:=by
 cases r with
 | cons r1 r2=>cases r2;exact⟨_,rfl,r1⟩
theorem vals2{x y:V}{us:List Value}(r:Vals [x,y] us):∃ u w',us=[u,w']∧RelV x u∧RelV y w':=by
 cases r with
 | cons r1 r2=>
  cases r2 with
  | cons r3 r4=>cases r4;exact⟨_,_,rfl,r1,r3⟩
theorem XI:AR X (.builtin "abs") (fun xs H Q=>∃ i,xs=[.int i]∧Q (.int (if i<0 then -i else i)) H):=by
 intro pins s σ H xs us Q I r h;(refine aA h fun i bO q=>?_;subst bO);(refine aA (vals1 r) fun u cA dF=>?_;refine aV dF fun t eX=>?_;subst cA;subst eX);exact call_abs_int fun u tk=>⟨.int (if i<0 then -i else i),H,I.tok _,⟨_,rfl⟩,q⟩
theorem HM(hc:X.calm=true):AR X (.builtin "max") (fun xs H Q=>∃ i j,xs=[.int i,.int j]∧Q (.int (if j>i then j else i)) H):=by
 intro pins s σ H xs us Q I r h;(refine aH h fun i j bO q=>?_;subst bO);(refine aB (vals2 r) fun u w' cA dF eX=>?_;subst cA;obtain⟨t,rfl⟩:=dF;obtain⟨t',rfl⟩:=eX);refine max_two_ints (I.ok.hd hc) fun h' tk k=>⟨_,H,I.kept k,?_,q⟩;by_cases hj:j>i
 ·rw[if_pos hj,if_pos hj];exact⟨_,rfl⟩
 ·rw[if_neg hj,if_neg hj];exact⟨_,rfl⟩
end
end L2
namespace L2
open PySem PySem.Spec PyProof.Rows
structure QA(h:Heap)(x dx C:Addr)(mA:Str→Option Value):Prop where
 obj:h.get? x=some (W.instObj C dx)
 ns:h.Ns1 dx mA
 ne:dx≠x
theorem TB{h:Heap}{dx:Addr}{mA:Str→Option Value}(n:h.Ns1 dx mA):∃ od,h.get? dx=some od∧∀ name,W.lookIn name od=some (mA name):=by
 refine aS n fun o es ep ho hd hk _ hm=>?_;refine⟨o,ho,fun name=>?_⟩;have e:=hm name;unfold nsFind findBy at e;rw[←Array.find?_toList] at e;unfold W.lookIn;rw[hd];dsimp only
 split
 ·rename_i y q;rw[q] at e;exact congrArg some e
 ·rename_i q;rw[q] at e;have a:es.toList.any (·.refKey)=false:=by
   rw[List.any_eq_false];intro y hy;refine aW (hk y (Array.mem_toList_iff.mp hy)) fun z t hkey=>?_;simp [DictEntry.refKey,hkey]
  have a':¬es.toList.any (·.refKey)=true:=by rw[a];exact Bool.false_ne_true
  rw[if_neg a'];exact congrArg some e
theorem QA.look{h:Heap}{x dx C:Addr}{mA:Str→Option Value}(I:QA h x dx C mA):∃ od,W.InstAt h x (W.instObj C dx) C (some od)∧∀ name,W.lookIn name od=some (mA name):=
 let ⟨od,ho,hl⟩:=TB I.ns
 ⟨od,⟨I.obj,rfl,rfl,ho⟩,hl⟩
section
variable{prog:Program}{w:World}{A:Around}{E:Value→Shared→Prop}{s:Shared}{K:W.Frag}{x dx C f:Addr}{mA:Str→Option Value}{name:Str}{v:Value}
theorem get_map{expr:Bool}{Q:Value→Shared→Prop}(X:K.In s.heap)(I:QA s.heap x dx C mA)(hg:W.plainGet K C name=true)(hh:W.hasDictIn K C=true)
  (ha:W.findIn K (.ref C) name=some none) (hv:mA name=some v) (hv':W.handedIn v=true) (h:Q v {s with toks:=s.toks+1}):
  wpAny (model prog w) A (getAttr (.ref x) name expr) Q E s:=by
 refine aA I.look fun od J hl=>?_;exact W.get_value X J (W.plainGet_of hg).1 (W.findObj_own hh ha rfl (by rw[hl,hv])) hv' h
theorem WY{pl:Sem Bool}{Q:Value×List Value→Shared→Prop}(X:K.In s.heap)(I:QA s.heap x dx C mA)(hg:W.plainGet K C name=true)
  (hf:W.findIn K (.ref C) name=some (some (.ref f))) (ht:W.isFn K (.ref f)=true) (hv:mA name=none) (h:Q (.ref f,[.ref x]) s):
  wpAny (model prog w) A (getMethod (.ref x) name pl) Q E s:=by
 refine aA I.look fun od J hl=>?_;exact W.method_fn X J (W.plainGet_of hg).1 (W.plainGet_of hg).2 hf (beq_iff_eq.mp ht) (by show (W.lookIn name od).map (·.isSome)=some false;rw[hl,hv];rfl) h
theorem YJ{ns:List Str}{Q:Unit→Shared→Prop}(X:K.In s.heap)(I:QA s.heap x dx C mA)
  (hs:W.findIn K (.ref C) "__setattr__"=some (some (.builtin "object.__setattr__"))) (hp:W.plainOver K C=true) (ht:W.takerIn K C name=some none) (hh:W.hasDictIn K C=true)
  (hw:PySem.Within mA ns) (hsz:ns.length≤sizeLine)
  (h:∀ h',QA h' x dx C (fun y=>if y=name then some v else mA y)→Heap.SameBut dx s.heap h'→Q () {s with heap:=h',toks:=s.toks+2}):
  wpAny (model prog w) A (setAttr (.ref x) name v) Q E s:=by
 refine aA I.look fun od J hl=>?_;refine W.set_plain X J hs (W.osa_open (s:={s with toks:=s.toks+1}) (r:=none) X J hp ht fun b=>?_);refine aA (W.any_some hh) fun cd hc hd'=>?_;have hx:s.heap.get? x=some ⟨.ref C,some dx,.plain,#[]⟩:=I.obj;refine wpAny_bind (wpAny_pure (wpAny_bind (wpAny_bind (wpAny_loadPart hx (wpAny_bind (W.Looks.here (s:={s with toks:=s.toks+1}) (W.looks_clsIn X hc) ?_))))));rw[hd'];refine wpAny_pure (a:=some dx) (wpAny_bind (wpAny_pure (wpAny_bind ?_)));refine wpAny_nsSet1 (s:={s with toks:=s.toks+1}) I.ns fun h' hn2 hs2=>?_;refine aJ (hn2.count (PySem.Within.cons name v hw)) fun oD esD epD hoD hdD hcD=>?_;refine wpAny_bind (wpAny_lookBehind hoD (by rw[hdD];exact pastItsLine_dict (aFt hcD (by rw[List.length_cons];lia))) ?_);exact wpAny_pure (h _ ⟨(hs2.2 _ (Ne.symm I.ne)).trans I.obj,hn2,I.ne⟩ hs2)
theorem WD{R:Result→Shared→Prop}{vs:List Value}{kw:List (Str×Value)}(X:K.In s.heap)(hm:W.makesIn K C=true)
  (hi:W.findIn K (.ref C) "__init__"=some (some (.ref f))) (hf:W.typeIn K (.ref f)=some (.type "function"))
  (h:codeAny (model prog w) (A.under (.builtin "type.__call__" ⟨.ref C::vs,kw⟩)) (.call (.ref f) ⟨.ref (s.heap.objs.size+1)::vs,kw⟩) (W.InitBack (s.heap.objs.size+1) R)
   {s with heap:=(s.heap.push W.emptyDict).push (W.instObj C s.heap.objs.size)}):
  codeAny (model prog w) A (.call (.ref C) ⟨vs,kw⟩) R s:=by
 obtain⟨hh,g,d,t,os⟩:=s;exact W.make_core (W.makes_of X hm) (W.looks_findIn X hi) (fun self=>W.bind_fn X self hf) (.inl rfl) h
end
def bG(f:Str)(v:V):List (Str×V)→List (Str×V)
 | []=>[(f,v)]
 | (g,x)::r=>if g=f then (g,v)::r else (g,x)::bG f v r
theorem AD(f g:Str)(v:V):∀ fs:List (Str×V),(bG f v fs).lookup g=if g=f then some v else fs.lookup g
 | []=>by
  show List.lookup g [(f,v)]=_;by_cases h:g=f
  ·have hb:(g==f)=true:=beq_iff_eq.mpr h;simp only[List.lookup,hb,if_pos h]
  ·have hb:(g==f)=false:=aFG.mpr h;simp only[List.lookup,hb,if_neg h]
 | (k,x)::r=>by
  have ih:=AD f g v r;rw[show bG f v ((k,x)::r)=(if k=f then (k,v)::r else (k,x)::bG f v r) from rfl];by_cases hk:k=f
  ·rw[if_pos hk];by_cases h:g=k
   ·have hb:(g==k)=true:=beq_iff_eq.mpr h;simp only[List.lookup,hb,if_pos (h.trans hk)]
   ·have hb:(g==k)=false:=aFG.mpr h;simp only[List.lookup,hb,if_neg (fun e:g=f=>h (e.trans hk.symm))]
  ·rw[if_neg hk];by_cases h:g=k
   ·have hb:(g==k)=true:=beq_iff_eq.mpr h;simp only[List.lookup,hb,if_neg (fun e:g=f=>hk (h.symm.trans e))]
   ·have hb:(g==k)=false:=aFG.mpr h;simp only[List.lookup,hb];exact ih
theorem yV(f:Str)(v:V):∀ fs:List (Str×V),f∈(bG f v fs).map (·.1)∧∀ g,g∈fs.map (·.1)→g∈(bG f v fs).map (·.1)
 | []=>⟨by simp [bG],fun g h=>by simp at h⟩
 | (k,x)::r=>by
  obtain⟨i1,i2⟩:=yV f v r;rw[show bG f v ((k,x)::r)=(if k=f then (k,v)::r else (k,x)::bG f v r) from rfl];by_cases hk:k=f
  ·rw[if_pos hk];subst hk;exact⟨by simp,fun g h=>by simpa using h⟩
  ·rw[if_neg hk];refine⟨?_,fun g h=>?_⟩
   ·rw[List.map_cons];exact aFk _ i1
   ·rw[List.map_cons] at h ⊢;rcases aEZ.mp h with e | e
    ·exact aEZ.mpr (.inl e)
    ·exact aFk _ (i2 g e)
theorem AF(f:Str)(v:V):∀ fs:List (Str×V),(bG f v fs).length≤fs.length+1
 | []=>by simp [bG]
 | (k,x)::r=>by
  have ih:=AF f v r;rw[show bG f v ((k,x)::r)=(if k=f then (k,v)::r else (k,x)::bG f v r) from rfl];by_cases hk:k=f
  ·rw[if_pos hk,List.length_cons,List.length_cons];lia
  ·rw[if_neg hk,List.length_cons,List.length_cons];lia
theorem xU.some_of{v:V}{o:Option Value}(r:xU (some v) o):∃ u,o=some u∧RelV v u:=by
 cases o with
 | none=>exact(show False from r).elim
 | some u=>exact⟨u,rfl,r⟩
theorem xU.none_of{o:Option Value}(r:xU none o):o=none:=by
 cases o with
 | none=>rfl
 | some u=>exact(show False from r).elim
theorem T4{v:V}{u:Value}(r:RelV v u):W.handedIn u=true:=by
 cases v with
 | non=>cases (show u=Value.none from r);rfl
 | bl b=>cases (show u=Value.bool b from r);rfl
 | int i=>obtain⟨t,e⟩:=(show ∃ t,u=Value.int i t from r);cases e;rfl
 | str x=>obtain⟨t,e⟩:=(show ∃ t,u=Value.str x t from r);cases e;rfl
 | T9 b=>obtain⟨t,e⟩:=(show ∃ t,u=Value.bytes b t from r);cases e;rfl
 | flt b=>obtain⟨t,e⟩:=(show ∃ t,u=Value.float b t from r);cases e;rfl
 | ref a=>cases (show u=Value.ref a from r);rfl
 | ty n=>cases (show u=Value.type n from r);rfl
section
variable{P:Program}{w:World}{H H':Hp}{h h':Heap}{a C dx:Addr}{fs fs':List (Str×V)}
theorem JK(hok:xY P w H h)(e:H a=some (.ins C dx fs)):∃ mA,QA h a dx C mA∧(∀ f,xU (fs.lookup f) (mA f))∧PySem.Within mA (fs.map (·.1))∧fs.length≤1000∧H dx=some (.own a):=by
 (refine aL ((show jH P w H h a (.ins C dx fs) from hok a _ e)) fun d z ne ob bO=>?_;refine aC bO fun mA n r q=>?_);exact⟨mA,⟨ob,n,ne⟩,r,q,z,d⟩
end
structure Cls(K:W.Frag)(C:Addr):Prop where
 pg:W.plainGet K C Str.empty=true
 hd:W.hasDictIn K C=true
 po:W.plainOver K C=true
 sa:W.findIn K (.ref C) "__setattr__"=some (some (.builtin "object.__setattr__"))
theorem Cls.get{K:W.Frag}{C:Addr}(c:Cls K C)(f:Str):W.plainGet K C f=true:=c.pg
def cS(K:W.Frag)(C:Addr)(f:Str):Prop:=W.findIn K (.ref C) f=some none
theorem cS.taker{K:W.Frag}{C:Addr}{f:Str}(n:cS K C f):W.takerIn K C f=some none:=by
 unfold W.takerIn;rw[show W.findIn K (.ref C) f=some none from n];rfl
structure Meth(K:W.Frag)(C:Addr)(m:Str)(f:Addr):Prop where
 at_:W.findIn K (.ref C) m=some (some (.ref f))
 fn:W.isFn K (.ref f)=true
 kp:W.keepIn K (.ref f)=true
section
variable{X:Cx}{pins:List (Addr×Obj)}{σ:St}{H:Hp}{s:Shared}{a C dx:Addr}{fs:List (Str×V)}{f:Str}{v:V}{A:Around}{E:Value→Shared→Prop}
theorem EA{b:Bool}{Q:Value→Shared→Prop}(I:Inv X pins σ H s)(e:H a=some (.ins C dx fs))(c:Cls X.K C)(n:cS X.K C f)(l:fs.lookup f=some v)
  (h:∀ u s',Inv X pins σ H s'→RelV v u→Q u s'):wpAny (model X.prog X.w) A (getAttr (.ref a) f b) Q E s:=by
 refine aO (JK I.hok e) fun mA O r _ _ _=>?_;refine aA (xU.some_of (v:=v) (o:=mA f) (by rw[←l];exact r f)) fun u hu ru=>?_;exact get_map I.D3 O (c.get f) c.hd n hu (T4 ru) (h u _ (I.tok _) ru)
theorem vF{m:Str}{g:Addr}{pl:Sem Bool}{Q:Value×List Value→Shared→Prop}(I:Inv X pins σ H s)(e:H a=some (.ins C dx fs))(c:Cls X.K C)(k:Meth X.K C m g)(l:fs.lookup m=none)
  (h:Q (.ref g,[.ref a]) s):wpAny (model X.prog X.w) A (getMethod (.ref a) m pl) Q E s:=by
 refine aO (JK I.hok e) fun mA O r _ _ _=>?_;have hn:mA m=none:=xU.none_of (by rw[←l];exact r m);exact WY I.D3 O (c.get m) k.at_ k.fn hn h
theorem B9{y:V}{u:Value}{Q:Unit→Shared→Prop}(I:Inv X pins σ H s)(e:H a=some (.ins C dx fs))(c:Cls X.K C)(n:cS X.K C f)(hl:fs.length<1000)(ry:RelV y u)
  (h:∀ s',Inv X pins σ (upd H a (.ins C dx (bG f y fs))) s'→Q () s'):wpAny (model X.prog X.w) A (setAttr (.ref a) f u) Q E s:=by
 refine aO (JK I.hok e) fun mA O r wi _ ho=>?_;have hz:(fs.map (·.1)).length≤sizeLine:=by rw[aFd,sizeLine_eq];lia
 refine YJ I.D3 O c.sa c.po n.taker c.hd wi hz fun h' O' sb=>h _ ?_;have hd:∃ o,h'.get? dx=some o:=let ⟨o,_,_,e',_⟩:=O'.ns;⟨o,e'⟩;refine I.write (x:=a) (e:=dx) (by rw[e];exact True.intro) (.inr ho) (fun b q hb z=>(sb.2 b hb).trans z) hd ?_;refine⟨by rw[bF O.ne];exact ho,?_,O.ne,O'.obj,_,O'.ns,fun g=>?_,fun g hg=>?_⟩
 ·have:=AF f y fs;lia
 ·show xU ((bG f y fs).lookup g) (if g=f then some u else mA g);rw[AD];by_cases q:g=f
  ·rw[if_pos q,if_pos q];exact ry
  ·rw[if_neg q,if_neg q];exact r g
 ·by_cases q:g=f
  ·rw[q];exact(yV f y fs).1
  ·refine(yV f y fs).2 g (wi g fun z=>hg ?_);show (if g=f then some u else mA g)=none;rw[if_neg q];exact z
theorem Inv.made(I:Inv X pins σ H s):Inv X pins σ (upd (upd H s.heap.objs.size (.own (s.heap.objs.size+1))) (s.heap.objs.size+1) (.ins C s.heap.objs.size []))
  {s with heap:=(s.heap.push W.emptyDict).push (W.instObj C s.heap.objs.size)}:=by
 have e1:(s.heap.push W.emptyDict).get? s.heap.objs.size=some W.emptyDict:=Heap.get?_push_size s.heap rfl;have e2:((s.heap.push W.emptyDict).push (W.instObj C s.heap.objs.size)).get? (s.heap.objs.size+1)=some (W.instObj C s.heap.objs.size):=by
  have:=Heap.get?_push_size (s.heap.push W.emptyDict) (o:=W.instObj C s.heap.objs.size) rfl
  rwa [Heap.size_push] at this
 have e3:(s.heap.push W.emptyDict).Ns s.heap.objs.size (fun _=>none):=⟨W.emptyDict,#[],_,e1,rfl,(fun e he=>absurd he (by simp)),fun _=>rfl⟩;have I1:=I.laid (a:=s.heap.objs.size) (o:= .own (s.heap.objs.size+1)) (h':=s.heap.push W.emptyDict) (t':=s.toks) (fun b u q=>Heap.get?_push_of_some _ q) (aFi _) ⟨_,e1⟩;refine I1.laid (a:=s.heap.objs.size+1) (o:= .ins C s.heap.objs.size []) (t':=s.toks) (fun b u q=>Heap.get?_push_of_some _ q) (Nat.le_of_eq (Heap.size_push _ _)) ?_;have ne:s.heap.objs.size≠s.heap.objs.size+1:=Nat.ne_of_lt (Nat.lt_succ_self _);refine⟨by rw[bF ne,a7],aFx _,ne,e2,fun _=>none,(Heap.Ns1.of_empty e3).at fun o q=>Heap.get?_push_of_some _ q,fun _=>True.intro,fun y hy=>absurd rfl hy⟩
theorem Z9{prog:Program}{w:World}{env:Env}{e:Expr}{f:Str}{pos:Pos}{s:Shared}{Q:Value→Shared→Prop}(hb:attributeBase e f env (eval e env)=eval e env)
  (h:wpAny (model prog w) A (eval e env) (fun o s₁=>wpAny (model prog w) A (getAttr o f true) Q E s₁) E s):wpAny (model prog w) A (eval (.Attribute e f pos) env) Q E s:=
 Attribute_any_ h (by rw[arm_eval_Attribute,hb])
end
def U5(K:W.Frag)(ta:TE)(f:Str):TE:=fun σ H Q=>ta σ H fun x H1=>∃ a C dx fs v,x= .ref a∧H1 a=some (.ins C dx fs)∧Cls K C∧cS K C f∧fs.lookup f=some v∧Q v H1
def YM(K:W.Frag)(ta tv:TE)(f:Str):TS:=fun D σ H=>tv σ H fun y H1=>ta σ H1 fun x H2=>∃ a C dx fs,x= .ref a∧H2 a=some (.ins C dx fs)∧Cls K C∧cS K C f∧fs.length<1000 ∧
 D.nx σ (upd H2 a (.ins C dx (bG f y fs)))
def aEJ(X:Cx)(op:Operator)(rd:V→V→Hp→VK→Prop):Prop:=
 ∀ (pins:List (Addr×Obj)) (s:Shared) (σ:St) (H:Hp) (x y:V) (u v:Value) (Q:VK),Inv X pins σ H s→RelV x u→RelV y v→rd x y H Q→wpAny (model X.prog X.w) X.A (inplaceOp op u v) (EP X pins σ Q) X.xe s
def IM(K:W.Frag)(ta tv:TE)(rd:V→V→Hp→VK→Prop)(f:Str):TS:=fun D σ H=>ta σ H fun x H1=>∃ a C dx fs v,x= .ref a∧H1 a=some (.ins C dx fs)∧Cls K C∧cS K C f∧fs.lookup f=some v ∧
 tv σ H1 fun y H2=>rd v y H2 fun z H3=>∃ P0 fs',H3 a=some (.ins C P0 fs')∧fs'.length<1000∧D.nx σ (upd H3 a (.ins C P0 (bG f z fs')))
section
variable{X:Cx}{o e value:Expr}{f:Str}{pos pos' tpos:Pos}{ta tv:TE}
theorem bB(he:PE X e ta)(hb:attributeBase e f X.env (eval e X.env)=eval e X.env):PE X (.Attribute e f pos) (U5 X.K ta f):=by
 intro pins s σ H Q I h;refine Z9 hb (eR (he pins s σ H _ I h) fun u s1 bO=>aB bO fun x H1 I1 rx cA=>aE cA fun a C dx dF=>aI dF fun fs v ex ea c n l q=>?_);subst ex;obtain rfl:u=Value.ref a:=rx;exact EA I1 ea c n l fun u' s2 I2 ru=>⟨v,H1,I2,ru,q⟩
theorem cP(ha:PE X o ta)(hv:PE X value tv)(hs:swapsWith value (some (.Attribute o f pos')) pos.line X.env=pure false):PS X (.Assign [.Attribute o f pos'] value pos) (YM X.K ta tv f):=by
 intro pins s σ H D I h;refine plainObj_wpAny_Assign_Attribute (eR (hv pins s σ H _ I h) fun u s1 bO=>aB bO fun y H1 I1 ry q=>eR (ha pins s1 σ H1 _ I1 q) fun ov s2 cA=>aB cA fun x H2 I2 rx dF=>aE dF fun a C dx eX=>aU eX fun fs ex ea c n l q2=>?_) hs;subst ex;obtain rfl:ov=Value.ref a:=rx;exact B9 I2 ea c n l ry fun s3 I3=>⟨σ,_,I3,q2⟩
theorem iV{op:Operator}{rd:V→V→Hp→VK→Prop}(ha:PE X o ta)(hv:PE X value tv)(hop:aEJ X op rd):PS X (.AugAssign (.Attribute o f tpos) op value pos) (IM X.K ta tv rd f):=by
 intro pins s σ H D I h;refine wpAny_AugAssign_AttributeAny (eR (ha pins s σ H _ I h) fun ov s1 bO=>aB bO fun x H1 I1 rx cA=>aE cA fun a C dx dF=>aI dF fun fs v ex ea c n l q=>?_);subst ex;obtain rfl:ov=Value.ref a:=rx;refine EA I1 ea c n l fun u s2 I2 ru=>eR (hv pins s2 σ H1 _ I2 q) fun w3 s3 eX=>aB eX fun y H2 I3 ry q3=>eR (hop pins s3 σ H2 v y u w3 _ I3 ru ry q3) fun w4 s4 hE=>aB hE fun z H3 I4 rz p9=>aB p9 fun P0 fs' ea' l' q4=>?_;exact B9 I4 ea' c n l' rz fun s5 I5=>⟨σ,_,I5,q4⟩
def aBa:V→V→Hp→VK→Prop:=fun x y H Q=>∃ i j,x= .int i∧y= .int j∧Q (.int (i+j)) H
theorem aAt{pl:Sem Bool}{m:Str}{apos:Pos}{args:List Expr}{pins:List (Addr×Obj)}{s:Shared}{σ:St}{H:Hp}{Q:Value→Shared→Prop}{te:TE}(he:PE X e te)(I:Inv X pins σ H s)
  (h:te σ H fun x H1=>∃ a C dx fs g,x= .ref a∧H1 a=some (.ins C dx fs)∧Cls X.K C∧Meth X.K C m g∧fs.lookup m=none ∧
   ∀ s1,Inv X pins σ H1 s1→wpAny (model X.prog X.w) X.A (callWith pos (.ref g) [.ref a] (backTo pos (starEach args X.env)) (backToKw pos (keywordEach [] X.env))) Q X.xe s1)
  (ht:eval (.Call (.Attribute e m apos) args [] pos) X.env=(do
   let ov ←eval e X.env
   standAt apos.atName
   let (f,first) ←holding [ov] (getMethod ov m pl)
   callWith pos f first (backTo pos (starEach args X.env)) (backToKw pos (keywordEach [] X.env)))):
  wpAny (model X.prog X.w) X.A (eval (.Call (.Attribute e m apos) args [] pos) X.env) Q X.xe s:=by
 refine W.methodCall_KW (pl:=pl) (eR (he pins s σ H _ I h) fun u s1 bO=>aB bO fun x H1 I1 rx cA=>aE cA fun a C dx dF=>aI dF fun fs g ex ea c k l q=>?_) ht;subst ex;obtain rfl:u=Value.ref a:=rx;exact vF I1 ea c k l (q s1 I1)
end
section
variable{X:Cx}{pins:List (Addr×Obj)}{σ:St}{H:Hp}{s:Shared}{A:Around}{E:Value→Shared→Prop}{Q:Value→Shared→Prop}{c:Value}{b:Bool}
end
end L2
namespace L2
open PySem PySem.Spec PyProof.Rows
structure f8(k:Nat)(A:Around):Prop where
 hd:A.handled=none
 dp:A.depth+3*k+5<recursionLimit
 un:A.units+16*k+200<cLine
theorem f8.mono{j k:Nat}{A:Around}(r:f8 k A)(h:j≤k):f8 j A:=⟨r.hd,by have:=r.dp;lia,by have:=r.un;lia⟩
theorem f8.deeper{k:Nat}{A:Around}(r:f8 (k+1) A)(env:Env):f8 k (A.deeper env):=
 ⟨r.hd,by have:=r.dp;show A.depth+1+3*k+5<_;lia,by have:=r.un;show A.units+3+16*k+200<_;lia⟩
theorem PB{A:Around}{C:Addr}{us:List Value}{kw:List (Str×Value)}:(A.under (.builtin "type.__call__" ⟨.ref C::us,kw⟩)).depth=A.depth+1:=by
 first | rfl | simp [Around.under,Code.weight,Code.isCreation,Code.isGuard,Code.isCaller,Code.frames,Code.isFrame,guardIds]
theorem O9{A:Around}{C:Addr}{us:List Value}{kw:List (Str×Value)}:(A.under (.builtin "type.__call__" ⟨.ref C::us,kw⟩)).units=A.units+1:=by
 first | rfl | simp [Around.under,Code.cUnits,Code.frames,Code.isFrame]
theorem f8.make{k:Nat}{A:Around}(r:f8 (k+1) A)(C:Addr)(us:List Value)(kw:List (Str×Value)):f8 k (A.under (.builtin "type.__call__" ⟨.ref C::us,kw⟩)):=
 ⟨r.hd,by have:=r.dp;rw[PB];lia,by have:=r.un;rw[O9];lia⟩
theorem f8.depth{k:Nat}{A:Around}(r:f8 k A):A.depth<recursionLimit:=by have:=r.dp;lia
theorem f8.units{k:Nat}{A:Around}(r:f8 k A):A.units+64<cLine:=by have:=r.un;lia
def SN:TA:=fun _ H Q=>Q [] H
def aAl(ta:TE)(tr:TA):TA:=fun σ H Q=>ta σ H fun x H1=>tr σ H1 fun xs H2=>Q (x::xs) H2
section
variable{X:Cx}{e:Expr}{es:List Expr}{te:TE}{t:TA}{pos:Pos}
theorem a6:PA X [] SN:=fun _ _ _ _ H Q I h=>Calls.spliced_nil ⟨[],H,I,.nil,h⟩
theorem aY(ha:PE X e te)(hr:PA X es t)(hs:starEach (e::es) X.env=(false,eval e X.env)::starEach es X.env:=by rfl):PA X (e::es) (aAl te t):=by
 intro pos pins s σ H Q I h;rw[hs];show wpAny _ _ (spliced ((false,eval e X.env)::backTo pos (starEach es X.env))) _ _ s;refine Calls.spliced_cons (eR (ha pins s σ H _ I h) fun u s1 bO=>aB bO fun x H1 I1 r1 q1=>?_);exact eR (hr pos pins s1 σ H1 _ I1 q1) fun us s2 cA=>aB cA fun xs H2 I2 r2 q2=>⟨x::xs,H2,I2,.cons r1 r2,q2⟩
def aBZ(t:TA):TE:=fun σ H Q=>t σ H fun xs H1=>xs.length≤sizeLine∧∀ p,H1 p=none→Q (.ref p) (upd H1 p (.tup xs))
def aCe(t:TA):TE:=fun σ H Q=>t σ H fun xs H1=>xs.length≤sizeLine∧∀ p,H1 p=none→Q (.ref p) (upd H1 p (.lst xs))
theorem fC{x1}(h:PA X es t):PE X (.Tuple es x1 pos) (aBZ t):=by
 intro pins s σ H Q I hq;refine wpAny_Tuple_spliced (eR (h pos pins s σ H _ I hq) fun us s1 bO=>aN bO fun xs H1 I1 r z q=>⟨by rw[←r.length];exact z,?_⟩);have hf:H1 s1.heap.objs.size=none:=I1.hok.fresh (aFi _);refine⟨.ref s1.heap.objs.size,upd H1 s1.heap.objs.size (.tup xs),I1.laid (t':=s1.toks) (fun b u e=>Heap.get?_push_of_some _ e) (aFi _) ?_,rfl,q _ hf⟩;exact⟨z,us,r,⟨_,Heap.get?_push_size _ rfl,rfl,_,rfl⟩⟩
theorem cG(h:PA X es t):PE X (.List es pos) (aCe t):=by
 intro pins s σ H Q I hq;refine wpAny_List_spliced (eR (h pos pins s σ H _ I hq) fun us s1 bO=>aN bO fun xs H1 I1 r z q=>⟨by rw[←r.length];exact z,?_⟩);have hf:H1 s1.heap.objs.size=none:=I1.hok.fresh (aFi _);refine⟨.ref s1.heap.objs.size,upd H1 s1.heap.objs.size (.lst xs),I1.laid (t':=s1.toks) (fun b u e=>Heap.get?_push_of_some _ e) (aFi _) ?_,rfl,q _ hf⟩;exact⟨z,us,0,r,Heap.get?_push_size _ rfl⟩
end
abbrev Sp:=List V→Hp→VK→XK→Prop
abbrev QI:=List Env→Hp→Shared→XK→Value→Shared→Prop
structure NK(P:Program)(w:World)(K:W.Frag)(mg:Str→Option Value)(base:Heap)(A:Around)(outer:List Env)(s:Shared)(H:Hp):Prop where
 frames:A.frames=some outer
 mod:Mod K mg base
 bs:∀ b o,base.get? b=some o→s.heap.get? b=some o∧H b=none
 XJ:base.objs.size≤s.heap.objs.size
 xH:s.heap.FunFrames base outer
 frf:∀ b∈frs outer,H b=none
 hok:xY P w H s.heap
 bare:AllBare s.gens
def CE(outer:List Env)(P:Program)(w:World)(H:Hp)(s:Shared)(Q:VK)(u:Value)(s':Shared):Prop:=
 ∃ v H',s'.os=s.os∧AllBare s'.gens∧Un (frs outer) [] H H' s.heap s'.heap∧xY P w H' s'.heap∧RelV v u∧Q v H'
def CR(CX:QI)(outer:List Env)(P:Program)(w:World)(H:Hp)(s:Shared)(Q:VK)(E:XK)(r:Result)(s':Shared):Prop:=
 match r with
 | .ok (.ret u)=>CE outer P w H s Q u s'
 | .ok _=>False
 | .error e=>CX outer H s E e s'
structure mU(P:Program)(w:World)(K:W.Frag)(mg:Str→Option Value)(base:Heap)(CX:QI)(k:Nat)(f:Addr)(fd:FuncData)(ps:List Str)(sp:Sp):Prop where
 len:∀ vs H Q E,sp vs H Q E→vs.length=ps.length
 run:∀ (A:Around) (outer:List Env) (s:Shared) (H:Hp) (args:Args) (us:List Value) (vs:List V) (Q:VK) (E:XK),f8 k A→NK P w K mg base A outer s H→BindsTo s fd args (ps.zip us)→Vals vs us→sp vs H Q E →
  codeAny (model P w) A (.call (.ref f) args) (CR CX outer P w H s Q E) s
theorem mU.mono{P:Program}{w:World}{K:W.Frag}{mg:Str→Option Value}{base:Heap}{CX:QI}{j k:Nat}{f:Addr}{fd:FuncData}{ps:List Str}{sp:Sp}(F:mU P w K mg base CX j f fd ps sp)(h:j≤k):
  mU P w K mg base CX k f fd ps sp:=⟨F.len,fun A outer s H args us vs Q E hr=>F.run A outer s H args us vs Q E (hr.mono h)⟩
theorem mU.imp{P:Program}{w:World}{K:W.Frag}{mg:Str→Option Value}{base:Heap}{CX:QI}{k:Nat}{f:Addr}{fd:FuncData}{ps:List Str}{sp sp':Sp}(F:mU P w K mg base CX k f fd ps sp)
  (h:∀ vs H Q E,sp' vs H Q E→sp vs H Q E):mU P w K mg base CX k f fd ps sp':=
 ⟨fun vs H Q E q=>F.len vs H Q E (h _ _ _ _ q),fun A outer s H args us vs Q E hr he hb hv hs=>F.run A outer s H args us vs Q E hr he hb hv (h _ _ _ _ hs)⟩
theorem NK.make{P:Program}{w:World}{K:W.Frag}{mg:Str→Option Value}{base:Heap}{A:Around}{outer:List Env}{s:Shared}{H:Hp}(e:NK P w K mg base A outer s H)(C:Addr)(us:List Value)(kw:List (Str×Value)):
  NK P w K mg base (A.under (.builtin "type.__call__" ⟨.ref C::us,kw⟩)) outer s H:=⟨by first | exact e.frames | (simpa [Around.under,Code.envs,Code.isFrame,pushEnvs] using e.frames),e.mod,e.bs,e.XJ,e.xH,e.frf,e.hok,e.bare⟩
section
variable{X:Cx}{pins:List (Addr×Obj)}{σ:St}{H:Hp}{s s':Shared}
theorem Inv.env0(I:Inv X pins σ H s):NK X.prog X.w X.K X.mg X.base X.A X.stack s H:=
 ⟨I.ok.frames,I.ok.mod,I.bs,aFt I.ok.XJ I.sz,I.stack,I.BA,I.hok,I.bare⟩
theorem Inv.after{Q:VK}{u:Value}(I:Inv X pins σ H s)(h:CE X.stack X.prog X.w H s Q u s'):EP X pins σ Q u s':=by
 refine aI h fun v H' os bare un hok r q=>?_;obtain⟨hh,g,d,t,os'⟩:=s';obtain rfl:os'=s.os:=os;exact⟨v,H',I.call (h':=hh) (g':=g) (d':=d) (t':=t) (ch:=[]) un hok bare (fun b z=>absurd z (by simp)),r,q⟩
end
def U6(sp:Sp)(xK:List V)(E:XK)(t:TA):TE:=fun σ H Q=>t σ H fun vs H1=>sp (vs++xK) H1 Q E
def zQ(C:Addr)(m:Str)(sp:Sp)(xK:List V)(E:XK)(ta:TE)(t:TA):TE:=fun σ H Q=>ta σ H fun x H1=>∃ a dx fs,x= .ref a∧H1 a=some (.ins C dx fs)∧fs.lookup m=none ∧
 t σ H1 fun vs H2=>sp (x::(vs++xK)) H2 Q E
def zR(C:Addr)(sp:Sp)(xK:List V)(E:XK)(t:TA):TE:=fun σ H Q=>t σ H fun vs H1=>∀ x dx,H1 x=none→H1 dx=none→dx≠x →
 sp (.ref x::(vs++xK)) (upd (upd H1 dx (.own x)) x (.ins C dx [])) (fun v H2=>v= .non∧Q (.ref x) H2) E
def Binds(K:W.Frag)(fd:FuncData)(ps:List Str)(ds:List Value):Prop:=
 ∀ (s:Shared) (us:List Value),K.In s.heap→(us++ds).length=ps.length→BindsTo s fd ⟨us,[]⟩ (ps.zip (us++ds))
theorem Binds.all{K:W.Frag}{fd:FuncData}{ps:List Str}(h:∀ us:List Value,us.length=ps.length→bindArgs fd ⟨us,[]⟩=pure (ps.zip us)):Binds K fd ps []:=fun s us _ hl=>by
 rw[List.append_nil] at hl ⊢;exact .of_eq (h us hl)
def Passes(CX:QI)(X:Cx)(E:XK):Prop:=∀ (pins:List (Addr×Obj)) (σ:St) (H:Hp) (s:Shared) (e:Value) (s':Shared),Inv X pins σ H s→CX X.stack H s E e s'→X.xe e s'
section
variable{X:Cx}{CX:QI}{k:Nat}{f C:Addr}{fd:FuncData}{ps:List Str}{sp:Sp}{xK:List V}{ds:List Value}{E:XK}{x m:Str}{p pos apos:Pos}{e o:Expr}{es:List Expr}{ta:TE}{t:TA}
theorem IN{pins:List (Addr×Obj)}{σ:St}{H:Hp}{s:Shared}{Q:VK}{us:List Value}{vs:List V}(F:mU X.prog X.w X.K X.mg X.base CX k f fd ps sp)(hr:f8 k X.A)(hb:Binds X.K fd ps ds)(hd:Vals xK ds)(hx:Passes CX X E)
  (I:Inv X pins σ H s) (r:Vals vs us) (h:sp (vs++xK) H Q E):wpAny (model X.prog X.w) X.A (call (.ref f) us) (EP X pins σ Q) X.xe s:=by
 have r2:Vals (vs++xK) (us++ds):=r.append hd;have hl:(us++ds).length=ps.length:=by rw[←r2.length];exact F.len _ _ _ _ h
 refine wpAny_call (codeAny_mono (F.run X.A X.stack s H ⟨us,[]⟩ (us++ds) (vs++xK) Q E hr I.env0 (hb s us I.D3 hl) r2 h) fun r s' hq=>?_)
 cases r with
 | error e=>exact hx pins σ H s e s' I hq
 | ok fl=>
  cases fl with
  | ret u=>exact I.after hq
  | next=>exact False.elim hq
  | brk=>exact False.elim hq
  | cont=>exact False.elim hq
theorem YY(F:mU X.prog X.w X.K X.mg X.base CX k f fd ps sp)(hr:f8 k X.A)(hg:Gl X x)(hm:X.mg x=some (.ref f))(hk:W.keepIn X.K (.ref f)=true)(hb:Binds X.K fd ps ds)(hd:Vals xK ds)(hx:Passes CX X E)
  (ha:PA X (e::es) t) (hdb:(x==("__debug__":Str))=false:=by decide) (he:starEach (e::es) X.env=(false,eval e X.env)::starEach es X.env:=by rfl) (hpl:(backTo pos (starEach es X.env)).any (·.1)=false:=by rfl):
  PE X (.Call (.Name x p) (e::es) [] pos) (U6 sp xK E t):=by
 intro pins s σ H Q I h;refine wpAny_Call_Name_kw (w8 I hg hm ?_ hdb);refine W.callWith_K (h₀:=X.base) I.ok.mod.kin hk (eR (ha pos pins s σ H _ I h) fun us s1 bO=>aB bO fun vs H1 I1 r q=>⟨I1.D3,?_⟩) he hpl;exact IN F hr hb hd hx I1 r q
theorem YW{pl:Sem Bool}(he:PE X o ta)(c:Cls X.K C)(hm:Meth X.K C m f)(F:mU X.prog X.w X.K X.mg X.base CX k f fd ps sp)(hr:f8 k X.A)(hb:Binds X.K fd ps ds)(hd:Vals xK ds)(hx:Passes CX X E)(ha:PA X (e::es) t)
  (hst:starEach (e::es) X.env=(false,eval e X.env)::starEach es X.env:=by rfl) (hpl:(backTo pos (starEach es X.env)).any (·.1)=false:=by rfl)
  (ht:eval (.Call (.Attribute o m apos) (e::es) [] pos) X.env=(do
   let ov ←eval o X.env
   standAt apos.atName
   let (f,first) ←holding [ov] (getMethod ov m pl)
   callWith pos f first (backTo pos (starEach (e::es) X.env)) (backToKw pos (keywordEach [] X.env))):=by rfl):
  PE X (.Call (.Attribute o m apos) (e::es) [] pos) (zQ C m sp xK E ta t):=by
 intro pins s σ H Q I h;refine W.methodCall_KW (pl:=pl) (eR (he pins s σ H _ I h) fun u s1 bO=>aB bO fun x H1 I1 rx cA=>aQ cA fun a dx fs ex ea l q=>?_) ht;subst ex;obtain rfl:u=Value.ref a:=rx;refine vF I1 ea c hm l ?_;refine W.callWith_K (first:=[.ref a]) (h₀:=X.base) I.ok.mod.kin hm.kp (eR (ha pos pins s1 σ H1 _ I1 q) fun us s2 dF=>aB dF fun vs H2 I2 r q2=>⟨I2.D3,?_⟩) hst hpl;exact IN (us:= .ref a::us) (vs:= .ref a::vs) F hr hb hd hx I2 (.cons rfl r) q2
theorem VR{pl:Sem Bool}(he:PE X o ta)(c:Cls X.K C)(hm:Meth X.K C m f)(F:mU X.prog X.w X.K X.mg X.base CX k f fd ps sp)(hr:f8 k X.A)(hb:Binds X.K fd ps ds)(hd:Vals xK ds)(hx:Passes CX X E)
  (ht:eval (.Call (.Attribute o m apos) [] [] pos) X.env=(do
   let ov ←eval o X.env
   standAt apos.atName
   let (f,first) ←holding [ov] (getMethod ov m pl)
   callWith pos f first (backTo pos (starEach [] X.env)) (backToKw pos (keywordEach [] X.env))):=by rfl):
  PE X (.Call (.Attribute o m apos) [] [] pos) (zQ C m sp xK E ta SN):=by
 intro pins s σ H Q I h;refine W.methodCall_KW (pl:=pl) (eR (he pins s σ H _ I h) fun u s1 bO=>aB bO fun x H1 I1 rx cA=>aQ cA fun a dx fs ex ea l q=>?_) ht;subst ex;obtain rfl:u=Value.ref a:=rx;refine vF I1 ea c hm l ?_;exact W.callWith_K0 (first:=[.ref a]) I1.D3 hm.kp (IN (us:=[.ref a]) (vs:=[.ref a]) F hr hb hd hx I1 (.cons rfl .nil) q)
structure Mk(K:W.Frag)(C f:Addr):Prop where
 makes:W.makesIn K C=true
 init:W.findIn K (.ref C) "__init__"=some (some (.ref f))
 fn:W.isFn K (.ref f)=true
 kp:W.keepIn K (.ref C)=true
theorem K6{pins:List (Addr×Obj)}{σ:St}{H:Hp}{s:Shared}{Q:VK}{us:List Value}{vs:List V}(M:Mk X.K C f)(F:mU X.prog X.w X.K X.mg X.base CX k f fd ps sp)(hr:f8 (k+1) X.A)(hb:Binds X.K fd ps ds)(hd:Vals xK ds)
  (hx:Passes CX X E) (I:Inv X pins σ H s) (r:Vals vs us)
  (h:∀ x dx,H x=none→H dx=none→dx≠x→sp (.ref x::(vs++xK)) (upd (upd H dx (.own x)) x (.ins C dx [])) (fun v H2=>v= .non∧Q (.ref x) H2) E):
  wpAny (model X.prog X.w) X.A (call (.ref C) us) (EP X pins σ Q) X.xe s:=by
 have hq:=h (s.heap.objs.size+1) s.heap.objs.size (I.hok.fresh (Nat.le_succ _)) (I.hok.fresh (aFi _)) (Nat.ne_of_lt (Nat.lt_succ_self _));have I2:=Inv.made (C:=C) I;have r2:Vals (V.ref (s.heap.objs.size+1)::(vs++xK)) (Value.ref (s.heap.objs.size+1)::(us++ds)):= .cons rfl (r.append hd);have hl:(Value.ref (s.heap.objs.size+1)::us++ds).length=ps.length:=by
  have e:=r2.length;rw[F.len _ _ _ _ hq] at e;exact e.symm
 refine wpAny_call (WD (f:=f) I.D3 M.makes M.init (beq_iff_eq.mp M.fn) (codeAny_mono (F.run _ X.stack _ _ ⟨Value.ref (s.heap.objs.size+1)::us,[]⟩ (Value.ref (s.heap.objs.size+1)::(us++ds)) _ _ E (hr.make C us [])
  (I2.env0.make C us []) (hb _ (Value.ref (s.heap.objs.size+1)::us) I2.D3 hl) r2 hq) fun r s' hq'=>?_))
 cases r with
 | error e=>exact hx pins σ _ _ e s' I2 hq'
 | ok fl=>
  cases fl with
  | ret u=>
   refine aN (I2.after hq') fun v H' I3 rv ev q3=>?_;subst ev;exact⟨rv,⟨V.ref (s.heap.objs.size+1),H',I3,rfl,q3⟩⟩
  | next=>exact False.elim hq'
  | brk=>exact False.elim hq'
  | cont=>exact False.elim hq'
theorem YX(M:Mk X.K C f)(F:mU X.prog X.w X.K X.mg X.base CX k f fd ps sp)(hr:f8 (k+1) X.A)(hg:Gl X x)(hm:X.mg x=some (.ref C))(hb:Binds X.K fd ps ds)(hd:Vals xK ds)(hx:Passes CX X E)
  (ha:PA X (e::es) t) (hdb:(x==("__debug__":Str))=false:=by decide) (he:starEach (e::es) X.env=(false,eval e X.env)::starEach es X.env:=by rfl) (hpl:(backTo pos (starEach es X.env)).any (·.1)=false:=by rfl):
  PE X (.Call (.Name x p) (e::es) [] pos) (zR C sp xK E t):=by
 intro pins s σ H Q I h;refine wpAny_Call_Name_kw (w8 I hg hm ?_ hdb);refine W.callWith_K (h₀:=X.base) I.ok.mod.kin M.kp (eR (ha pos pins s σ H _ I h) fun us s1 bO=>aB bO fun vs H1 I1 r q=>⟨I1.D3,?_⟩) he hpl;exact K6 M F hr hb hd hx I1 r q
theorem VS(M:Mk X.K C f)(F:mU X.prog X.w X.K X.mg X.base CX k f fd ps sp)(hr:f8 (k+1) X.A)(hg:Gl X x)(hm:X.mg x=some (.ref C))(hb:Binds X.K fd ps ds)(hd:Vals xK ds)(hx:Passes CX X E)
  (hdb:(x==("__debug__":Str))=false:=by decide):PE X (.Call (.Name x p) [] [] pos) (zR C sp xK E SN):=by
 intro pins s σ H Q I h;refine wpAny_Call_Name_kw (w8 I hg hm ?_ hdb);exact W.callWith_K0 I.D3 M.kp (K6 (us:=[]) M F hr hb hd hx I .nil h)
end
section
variable{X:Cx}{CX:QI}{k:Nat}{f C:Addr}{fd:FuncData}{ps ks:List Str}{sp:Sp}{E:XK}{x m:Str}{p pos apos kpos:Pos}{e o:Expr}{es:List Expr}{kws:List Keyword}{te ta:TE}{t tk:TA}{nm:Option Str}
variable{g:List Value→List Value→List Value}{gV:List V→List V→List V}
end
structure bJ(N P:List Str)(sc:Scope):Prop where
 kind:sc.kind= .function
 co:sc.isCoroutine=false
 gen:sc.isGenerator=false
 nd:N.Nodup
 pre:N.take P.length=P
 par:∀ x∈P,sc.names.lookup x=some .local∨sc.names.lookup x=some .cell
 aBj:∀ y∈sc.names,y.2≠.free
theorem HN{kindOf:Str→Option NameKind}{x:Str}:∀ {binds:List (Str×Value)} {m:Str→Option Value},(∀ v,(x,v)∉binds)→bindL kindOf binds m x=m x
 | [],_,_=>rfl
 | (n,v)::r,m,h=>by
  unfold bindL;rw[HN fun w hw=>h w (aFk _ hw)]
  split
  ·have:x≠n:=by rintro rfl;exact h v aFh
   simp [this]
  ·rfl
theorem HQ{kindOf:Str→Option NameKind}{x:Str}:∀ {binds:List (Str×Value)} {m:Str→Option Value},(∀ v,(x,v)∉binds)→bindC kindOf binds m x=m x
 | [],_,_=>rfl
 | (n,v)::r,m,h=>by
  unfold bindC;rw[HQ fun w hw=>h w (aFk _ hw)]
  split
  ·rfl
  ·have:x≠n:=by rintro rfl;exact h v aFh
   simp [this]
theorem HP{kindOf:Str→Option NameKind}{x:Str}{v:Value}:∀ {P:List Str} {vs:List Value} {i:Nat} {m:Str→Option Value},P.Nodup→P[i]?=some x→vs[i]?=some v→kindOf x=some .local →
  bindL kindOf (P.zip vs) m x=some v
 | [],_,_,_,_,h,_,_=>by simp at h
 | _::_,[],_,_,_,_,h,_=>by simp at h
 | p::P,w::vs,0,m,nd,h1,h2,hk=>by
  simp at h1 h2;subst h1;subst h2;show bindL kindOf ((p,w)::P.zip vs) m p=_;unfold bindL;rw[HN fun v hv=>(aFB.mp nd).1 (List.of_mem_zip hv).1,if_pos hk];simp
 | p::P,w::vs,i+1,m,nd,h1,h2,hk=>by
  show bindL kindOf ((p,w)::P.zip vs) m x=_;unfold bindL;exact HP (i:=i) (aFB.mp nd).2 (by simpa using h1) (by simpa using h2) hk
theorem HR{kindOf:Str→Option NameKind}{x:Str}{v:Value}:∀ {P:List Str} {vs:List Value} {i:Nat} {m:Str→Option Value},P.Nodup→P[i]?=some x→vs[i]?=some v→kindOf x≠some .local →
  bindC kindOf (P.zip vs) m x=some v
 | [],_,_,_,_,h,_,_=>by simp at h
 | _::_,[],_,_,_,_,h,_=>by simp at h
 | p::P,w::vs,0,m,nd,h1,h2,hk=>by
  simp at h1 h2;subst h1;subst h2;show bindC kindOf ((p,w)::P.zip vs) m p=_;unfold bindC;rw[HQ fun v hv=>(aFB.mp nd).1 (List.of_mem_zip hv).1,if_neg hk];simp
 | p::P,w::vs,i+1,m,nd,h1,h2,hk=>by
  show bindC kindOf ((p,w)::P.zip vs) m x=_;unfold bindC;exact HR (i:=i) (aFB.mp nd).2 (by simpa using h1) (by simpa using h2) hk
def start(N:List Str)(vs:List V):St:=vs.map some++List.replicate (N.length-vs.length) none
def A4(CX:QI)(P:Program)(w:World)(K:W.Frag)(mg:Str→Option Value)(base:Heap)(N:List Str)(qual:Str)(scope:Scope)(f:Addr)(cd:Value)(A:Around)(outer:List Env)(s:Shared)(H:Hp)(E:XK):Cx where
 prog:=P
 w:=w
 K:=K
 mg:=mg
 base:=base
 A:=A.deeper (envOfC qual scope s.heap.objs.size f cd)
 N:=N
 s_0:=s
 H_0:=H
 env:=envOfC qual scope s.heap.objs.size f cd
 outer:=outer
 stack:=envOfC qual scope s.heap.objs.size f cd::outer
 ex:=[]
 calm:=true
 fn:=fun _=>true
 pn:=[]
 xe:=fun e s'=>wpAny (model P w) (A.deeper (envOfC qual scope s.heap.objs.size f cd)) (leaving (envOfC qual scope s.heap.objs.size f cd) e) (fun _ s''=>CX outer H s E e s'') (fun e' s''=>CX outer H s E e' s'') s'
theorem MS{sc:Scope}{n:Nat}{x:Str}(h:sc.names.lookup x=some .cell):∃ c,(cellsFrom n sc.names []).lookup x=some c:=by
 have q:=W.cellsFrom_some sc.names n [] (.inl h);exact Option.isSome_iff_exists.mp q
theorem TV{CX:QI}{P:Program}{w:World}{K:W.Frag}{mg:Str→Option Value}{base:Heap}{N ps:List Str}{qual:Str}{scope:Scope}{f:Addr}{cd:Value}{A:Around}{outer:List Env}{s s1:Shared}{H:Hp}{E:XK}{us:List Value}{vs:List V}
  (S:bJ N ps scope) (hd:A.handled=none) (e0:NK P w K mg base A outer s H) (hl:vs.length=ps.length) (r:Vals vs us)
  (x:InCallC s s.heap.objs.size (bindL (envOfC qual scope s.heap.objs.size f cd).kindOf (ps.zip us) fun _=>none) (cellsFrom (s.heap.objs.size+1) scope.names []) (bindC (envOfC qual scope s.heap.objs.size f cd).kindOf (ps.zip us) fun _=>none) s1):
  Inv (A4 CX P w K mg base N qual scope f cd A outer s H E) [] (start N vs) H s1:=by
 have hpl:ps.length≤N.length:=by have:=congrArg List.length S.pre;rw[aFq] at this;lia
 (refine aH x.done fun h1 tk bO hk=>?_;subst bO);have X1:∀ b:Addr,b∉(A4 CX P w K mg base N qual scope f cd A outer s H E).ex:=fun b z=>absurd (show b∈([]:List Addr) from z) (by simp);refine⟨⟨e0.mod,S.kind,rfl,rfl,aFi _,fun y z c h1 h2=>?_,fun y hy=>?_,fun y c _ h=>?_,fun _=>hd,Around.frames_deeper e0.frames,.inr ⟨rfl,rfl⟩,fun b z=>absurd z (X1 b),e0.bs,e0.XJ,fun b _ _=>X1 b,fun b z=>absurd z (X1 b),e0.xH,e0.frf⟩,
  rfl,e0.bare,Un.kept hk,⟨_,x.toInCall.ns,fun i y v h1 h2 h3=>?_⟩,fun y c h=>⟨_,x.cell y c h⟩,e0.hok.fresh (aFi _),fun y c h=>?_,fun p hp=>absurd (show p∈([]:List (Addr×Obj)) from hp) (by simp),e0.hok.kept hk,?_⟩
 ·exact name_of_addr x.apart (PySem.mem_of_lookup h1) (PySem.mem_of_lookup h2)
 ·have hy:scope.names.lookup y=some .cell∨scope.names.lookup y=some .free:=hy;rcases hy with hy | hy
  ·exact MS hy
  ·exact absurd rfl (S.aBj _ (PySem.mem_of_lookup hy))
 ·exact Nat.le_of_lt (x.above y c (PySem.mem_of_lookup h))
 ·have hi:i<vs.length:=by
   unfold start at h2;by_cases hi:i<vs.length
   ·exact hi
   ·rw[aFu (by simpa using hi)] at h2;rw[List.getElem?_replicate] at h2
    split at h2 <;> cases h2
  have ha:vs[i]?=some v:=by
   unfold start at h2;rw[aFK (by simpa using hi),aFH] at h2
   cases e:vs[i]? with
   | none=>rw[e] at h2;cases h2
   | some a=>rw[e] at h2;cases h2;rfl
  refine aA (r.get ha) fun u hu rv=>?_;have hp:ps[i]?=some y:=by
   rw[←S.pre,aFP (by lia)];exact h1
  have ndP:ps.Nodup:=by rw[←S.pre];exact S.nd.sublist (List.take_sublist _ _)
  refine⟨u,rv,?_⟩;rcases S.par y (aFO hp) with k | k
  ·exact .inl ⟨k,HP ndP hp hu k⟩
  ·obtain⟨c,e⟩:=MS (n:=s.heap.objs.size+1) k;refine .inr ⟨.inl k,c,e,?_⟩;have q:=x.cell y c e;rw[HR ndP hp hu (by show scope.names.lookup y≠_;rw[k];decide)] at q;exact q
 ·exact e0.hok.fresh (Nat.le_of_lt (x.above y c (PySem.mem_of_lookup h)))
 ·unfold start;show _=N.length;rw[aFb,aFd,aFL];lia
theorem aAw{CX:QI}{P:Program}{w:World}{K:W.Frag}{mg:Str→Option Value}{base:Heap}{k:Nat}{f:Addr}{name qual:Str}{params:Arguments}{body:List Stmt}{scope:Scope}{dV kV doc pm cdv ct oc:Value}{an od:Option Addr}
  {osl:Array (Option Value)} {N ps:List Str} {sp:Sp} (lk:K.lookup f=some ⟨oc,od,.func (W.fnOf name qual params body scope dV kV doc pm an cdv ct),osl⟩) (hcd:W.codeIn K cdv qual=true) (S:bJ N ps scope)
  (len:∀ vs H Q E,sp vs H Q E→vs.length=ps.length)
  (hbody:∀ (A:Around) (outer:List Env) (s:Shared) (H:Hp) (vs:List V) (Q:VK) (E:XK),f8 k (A.deeper (envOfC qual scope s.heap.objs.size f cdv))→sp vs H Q E →
   ∃ t,MZ (A4 CX P w K mg base N qual scope f cdv A outer s H E) body t∧t {nx:=fun _ H'=>Q .non H',rt:=Q} (start N vs) H):
  mU P w K mg base CX (k+1) f (W.fnOf name qual params body scope dV kV doc pm an cdv ct) ps sp:=by
 refine⟨len,fun A outer s H args us vs Q E hr e0 hb r hsp=>?_⟩;have hl:=len _ _ _ _ hsp;have KX:K.In s.heap:=e0.mod.kin.keeps fun b o e=>(e0.bs b o e).1;have lim:s.heap.NoLimit:=e0.mod.nolimit.keeps fun b o e=>(e0.bs b o e).1;have hkind:∀ y∈ps.zip us,scope.names.lookup y.1=some .local∨(scope.names.lookup y.1=some .cell∧((cellsFrom (s.heap.objs.size+1) scope.names []).lookup y.1).isSome=true):=fun ⟨n,v⟩ hy=>by
  rcases S.par n (List.of_mem_zip hy).1 with q | q
  ·exact .inl q
  ·exact .inr ⟨q,W.cellsFrom_some _ _ _ (.inl q)⟩
 refine codeAny_call_function hr.depth (KX _ _ lk) rfl S.co S.gen rfl (W.codeRec_of KX hcd) (hb _ _ _ _ ?_);refine wpAny_newFunctionEnv_cells S.kind hkind fun env he s1 x=>?_;subst he;refine⟨lim.keeps x.toInCall.keep,codeAny_func ?_⟩;refine aA (hbody A outer s H vs Q E (hr.deeper _) hsp) fun t ht hq=>?_;have I:Inv (A4 CX P w K mg base N qual scope f cdv A outer s H E) [] (start N vs) H s1:=TV S hr.hd e0 hl r x;refine wpAny_mono (ht [] s1 (start N vs) H _ I hq) (fun fl s' hs=>?_) fun e s' hs=>hs;have fin:∀ {σ':St} {H':Hp} {v:V} {u:Value},Inv (A4 CX P w K mg base N qual scope f cdv A outer s H E) [] σ' H' s'→RelV v u→Q v H'→CE outer P w H s Q u s':=
  fun {σ' H' v u} J rv q=>⟨v,H',J.os,J.bare,J.base,J.hok,rv,q⟩
 cases fl with
 | ret u=>
  refine aJ hs fun v σ' H' J rv q=>?_;exact fin J rv q
 | next=>
  refine aH hs fun σ' H' J q=>?_;exact fin (v:=V.non) (u:=Value.none) J rfl q
 | brk=>
  refine aH hs fun _ _ _ q=>?_;exact False.elim q
 | cont=>
  refine aH hs fun _ _ _ q=>?_;exact False.elim q
end L2
namespace L2
open PySem PySem.Spec PyProof.Rows
section
variable{X:Cx}{x:Str}{p pos:Pos}{e:Expr}{es:List Expr}{t:TA}{id T:String}{r:List V→Hp→VK→Prop}
def tCB(r:List V→Hp→VK→Prop)(t:TA):TE:=fun σ H Q=>t σ H fun vs H1=>r vs H1 Q
theorem bY(hc:AR X (.builtin id) r)(hg:Gl X x)(hm:X.mg x=none)(hv:bootBuiltins x=some (.builtin id))(ha:PA X (e::es) t)(hn:x≠"__name__":=by decide)(hdb:(x==("__debug__":Str))=false:=by decide)
  (he:starEach (e::es) X.env=(false,eval e X.env)::starEach es X.env:=by rfl) (hpl:(backTo pos (starEach es X.env)).any (·.1)=false:=by rfl):PE X (.Call (.Name x p) (e::es) [] pos) (tCB r t):=by
 intro pins s σ H Q I h;refine wpAny_Call_Name_kw (DW I hg hm hv ?_ hn hdb);exact PyProof.Rows.callWith_builtin1 (eR (ha pos pins s σ H _ I h) fun us s1 bO=>aB bO fun vs H1 I1 r1 q1=>hc pins s1 σ H1 vs us Q I1 r1 q1) he hpl
theorem yO(hc:AR X (.type T) r)(hg:Gl X x)(hm:X.mg x=none)(hv:bootBuiltins x=some (.type T))(ha:PA X (e::es) t)(hn:x≠"__name__":=by decide)(hdb:(x==("__debug__":Str))=false:=by decide)
  (he:starEach (e::es) X.env=(false,eval e X.env)::starEach es X.env:=by rfl) (hpl:(backTo pos (starEach es X.env)).any (·.1)=false:=by rfl):PE X (.Call (.Name x p) (e::es) [] pos) (tCB r t):=by
 intro pins s σ H Q I h;refine wpAny_Call_Name_kw (DW I hg hm hv ?_ hn hdb);exact PyProof.Rows.callWith_type1 (eR (ha pos pins s σ H _ I h) fun us s1 bO=>aB bO fun vs H1 I1 r1 q1=>hc pins s1 σ H1 vs us Q I1 r1 q1) he hpl
end
end L2
namespace HT
open PySem PyProof.Rows
section
open PySem.SeqAt
open PySem.AutoSeq1 (wpAny_loadPart')
open PySem.MeetsSeq PySem.MeetsSeq2 PySem.MeetsSeq3
end
section
variable{prog:Program}{w:World}{A:Around}{E:Value→Shared→Prop}{s:Shared}
def jC(n d:Nat):Option Int→Nat
 | none=>d
 | some v=>if v<0 then (v+(n:Int)).toNat else min v.toNat n
theorem pJ(n d k:Nat):jC n d (some (k:Int))=min k n:=by
 show (if (k:Int)<0 then ((k:Int)+(n:Int)).toNat else min (k:Int).toNat n)=min k n;rw[if_neg (by lia),aFl]
theorem aAV(n d:Nat)(hd:d≤n)(o:Option Int):jC n d o≤n:=by
 cases o with
 | none=>exact hd
 | some v=>
  show (if v<0 then (v+(n:Int)).toNat else min v.toNat n)≤n;by_cases hv:v<0
  ·rw[if_pos hv];lia
  ·rw[if_neg hv];exact Nat.min_le_right _ _
theorem RY(v:Int)(n d:Nat):(if v<0 then max (v+(n:Int)) 0 else min v (n:Int))=((jC n d (some v):Nat):Int):=by
 show (if v<0 then max (v+(n:Int)) 0 else min v (n:Int))=(((if v<0 then (v+(n:Int)).toNat else min v.toNat n):Nat):Int);by_cases hv:v<0
 ·simp only[if_pos hv];lia
 ·simp only[if_neg hv];lia
theorem P9(lo hi:Option Int)(n:Nat):Builtin.Slice.sliceAdjust lo hi 1 (n:Int)=(((jC n 0 lo:Nat):Int),((jC n n hi:Nat):Int)):=by
 have h1:¬((1:Int)<0):=by lia
 unfold Builtin.Slice.sliceAdjust;simp only[h1,if_false];refine Prod.ext ?_ ?_
 ·cases lo with
  | none=>rfl
  | some v=>exact RY v n 0
 ·cases hi with
  | none=>rfl
  | some v=>exact RY v n n
theorem OO(i j:Nat):Builtin.Slice.slicePlaces (i:Int) (j:Int) 1=j-i:=by
 unfold Builtin.Slice.slicePlaces;have h1:(1:Int)>0:=by lia
 simp only[h1,if_true,Int.ediv_one]
 split <;> lia
theorem B7{v:Value}{o:Option Int}{Q:Option Int→Shared→Prop}(p:IsPart v o)(h:Q o s):wpAny (model prog w) A (Builtin.Slice.slicePartIndex v) Q E s:=by
 cases p with
 | none=>exact slicePart_none h
 | int i t=>exact slicePart_int h
theorem yH{sl:Addr}{vl vu:Value}{lo hi:Option Int}{n:Nat}{Q:Int×Int×Nat→Shared→Prop}(hs:s.heap.IsSliceOf sl vl vu .none)(pl:IsPart vl lo)(pu:IsPart vu hi)
  (h:Q (((jC n 0 lo:Nat):Int),1,jC n n hi-jC n 0 lo) s):wpAny (model prog w) A (Builtin.Slice.sliceApplied (.ref sl) (pure (n:Int))) Q E s:=by
 refine aC (id hs) fun os hos hcs hds=>?_;unfold Builtin.Slice.sliceApplied Builtin.Slice.sliceFields;refine wpAny_bind (wpAny_bind (wpAny_field hos hds (x:=vl) rfl (wpAny_bind (wpAny_field hos hds (x:=vu) rfl (wpAny_bind (wpAny_field hos hds (x:= .none) rfl (wpAny_pure ?_)))))));refine wpAny_bind (slicePart_none ?_);show wpAny _ _ (if ((1:Int)==0)=true then _ else _) _ _ s;rw[if_neg (by decide)];refine wpAny_bind (B7 pl (wpAny_bind (B7 pu (wpAny_bind (wpAny_pure ?_)))));show wpAny _ _ (match Builtin.Slice.sliceAdjust lo hi 1 (n:Int) with | (lo,hi)=>pure (lo,(1:Int),Builtin.Slice.slicePlaces lo hi 1)) _ _ s;rw[P9 lo hi n];show wpAny _ _ (pure (((jC n 0 lo:Nat):Int),(1:Int),Builtin.Slice.slicePlaces ((jC n 0 lo:Nat):Int) ((jC n n hi:Nat):Int) 1)) _ _ s;rw[OO];exact wpAny_pure h
theorem VQ(xs:Array Value)(i k:Nat):((List.range k).filterMap fun (m:Nat)=>xs[((i:Int)+(m:Int)*1).toNat]?).toArray=((xs.toList.drop i).take k).toArray:=by
 have e:(fun (m:Nat)=>xs[((i:Int)+(m:Int)*1).toNat]?)=fun m=>xs[i+m]?:=by
  funext m;have:((i:Int)+(m:Int)*1).toNat=i+m:=by lia
  rw[this]
 rw[e];have:=pick_run xs i k;rw[List.filterMap_map] at this;have e2:((fun x=>xs[x]?) ∘ fun x=>i+x)=fun m=>xs[i+m]?:=rfl;rw[e2] at this;rw[this]
theorem xG{t sl:Addr}{items:Array Value}{vl vu:Value}{lo hi:Option Int}{Q:Value→Shared→Prop}(ht:IsTup s.heap t items)(hs:s.heap.IsSliceOf sl vl vu .none)(pl:IsPart vl lo)(pu:IsPart vu hi)
  (hw:¬(jC items.size 0 lo=0∧jC items.size items.size hi=items.size))
  (h:Q (.ref s.heap.objs.size) {s with heap:=s.heap.push {cls:= .type "tuple",data:= .seq ((items.toList.drop (jC items.size 0 lo)).take (jC items.size items.size hi-jC items.size 0 lo)).toArray}})
  (hsz:items.size≤sizeLine):wpAny (model prog w) A (getItem (.ref t) (.ref sl)) Q E s:=by
 have RP:sizeOk (.seq ((items.toList.drop (jC items.size 0 lo)).take (jC items.size items.size hi-jC items.size 0 lo)).toArray):=by
  show ((items.toList.drop (jC items.size 0 lo)).take (jC items.size items.size hi-jC items.size 0 lo)).toArray.size≤sizeLine;rw[aFo,aFq,aFp,Array.length_toList];omega
 have hj:jC items.size items.size hi≤items.size:=aAV _ _ (aFi _) hi;refine aC (id hs) fun os hos hcs hds=>?_;have hTs:s.TypeIs (.ref sl) "slice":=⟨os,hos,hcs⟩;unfold getItem
 try with_reducible refine wpAny_holding ?_
 first | refine wpAny_bind (wpAny_pure ?_) | skip
 refine wpAny_bind (wpAny_sequenceKey ht.typeIs (by decide) ?_);refine wpAny_bind (wpAny_callSpecial?_slot (name:=Str.ofString "__getitem__") ht.typeIs PyProof.Rows.slot_tuple_getitem
  (wpAny_call_entry PyProof.Rows.slot_tuple_getitem ht.typeIs entry_tuple_getitem ?_ (args_tuple_getitem _ _)))
 show wpAny _ _ (Builtin.Tuple.tupleItemsOf (.ref t) >>= _) _ _ s;refine wpAny_bind (tupleItemsOf_ ht ?_);refine wpAny_bind (wpAny_typeOf hTs ?_);rw[if_pos (by decide)];refine wpAny_bind (yH hs pl pu ?_);have hno:¬((((jC items.size 0 lo:Nat):Int)==0&&(1:Int)==1&&(jC items.size items.size hi-jC items.size 0 lo)==items.size)=true):=by
  intro q;rw[aFg,aFg] at q;have q1:((jC items.size 0 lo:Nat):Int)=0:=eq_of_beq q.1.1;have q2:jC items.size items.size hi-jC items.size 0 lo=items.size:=eq_of_beq q.2;exact hw ⟨by omega,by omega⟩
 show wpAny _ _ (if (((jC items.size 0 lo:Nat):Int)==0&&(1:Int)==1&&(jC items.size items.size hi-jC items.size 0 lo)==items.size)=true then _ else _) _ _ s;rw[if_neg hno,VQ]
 first
  | exact wpAny_bind (m:=Builtin.Tuple.tupleExact _) (wpAny_newObj_type (wpAny_pure ⟨_,rfl,wpAny_pure h⟩) RP)
  | exact wpAny_bind (m:=Builtin.Tuple.tupleExact _) (wpAny_newObj_type (wpAny_bind (wpAny_pure (wpAny_pure ⟨_,rfl,wpAny_pure h⟩))) RP)
  | exact wpAny_bind (wpAny_bind (m:=Builtin.Tuple.tupleExact _) (wpAny_newObj_type (wpAny_pure (wpAny_pure ⟨_,rfl,wpAny_pure h⟩)) RP))
  | exact wpAny_bind (wpAny_bind (m:=Builtin.Tuple.tupleExact _) (wpAny_newObj_type (wpAny_pure ⟨_,rfl,wpAny_pure h⟩) RP))
end
end HT
namespace L2
open PySem PySem.Spec PyProof.Rows
abbrev TO:=St→Hp→(Option Int→Hp→Prop)→Prop
def PO(X:Cx)(e:Option Expr)(t:TO):Prop:=
 ∀ (pins:List (Addr×Obj)) (s:Shared) (σ:St) (H:Hp) (Q:Option Int→Hp→Prop),Inv X pins σ H s→t σ H Q →
  wpAny (model X.prog X.w) X.A (evalPart e X.env) (fun u s'=>∃ o H',Inv X pins σ H' s'∧IsPart u o∧Q o H') X.xe s
def HX:TO:=fun _ H Q=>Q none H
def QN(t:TE):TO:=fun σ H Q=>t σ H fun x H1=>∃ i,x= .int i∧Q (some i) H1
section
variable{X:Cx}{e:Expr}{te:TE}{lo hi:Option Expr}{tl th:TO}{pos p2:Pos}
theorem wL:PO X none HX:=by
 intro pins s σ H Q I h;rw[evalPart_none];exact wpAny_pure ⟨none,H,I,.none,h⟩
theorem gU(h:PE X e te):PO X (some e) (QN te):=by
 intro pins s σ H Q I hw;rw[evalPart_some];refine eR (h pins s σ H _ I hw) fun u s1 bO=>aB bO fun x H1 I1 r1 q1=>?_;(refine aA q1 fun i cA q=>?_;subst cA);obtain⟨t,rfl⟩:=r1;exact⟨some i,H1,I1,.int i t,q⟩
def SlR(X:Cx)(r:V→Option Int→Option Int→Hp→VK→Prop):Prop:=
 ∀ (pins:List (Addr×Obj)) (s:Shared) (σ:St) (H:Hp) (x:V) (v vl vu:Value) (lo hi:Option Int) (sl:Addr) (Q:VK),Inv X pins σ H s→RelV x v→s.heap.IsSliceOf sl vl vu .none→IsPart vl lo→IsPart vu hi→r x lo hi H Q →
  ∃ T id,typeLookup (.type T) "__getitem__"=pure (some (.builtin id))∧s.TypeIs v T∧wpAny (model X.prog X.w) X.A (getItem v (.ref sl)) (EP X pins σ Q) X.xe s
def tSl(r:V→Option Int→Option Int→Hp→VK→Prop)(te:TE)(tl th:TO):TE:=fun σ H Q=>te σ H fun x H1=>tl σ H1 fun l H2=>th σ H2 fun u H3=>r x l u H3 Q
theorem jE{r:V→Option Int→Option Int→Hp→VK→Prop}(hr:SlR X r)(he:PE X e te)(hl:PO X lo tl)(hu:PO X hi th):PE X (.Subscript e (.Slice lo hi none p2) pos) (tSl r te tl th):=by
 intro pins s σ H Q I h;refine Subscript_ (eR (he pins s σ H _ I h) fun v s1 bO=>aB bO fun x H1 I1 r1 q1=>?_);refine wpAny_Slice (eR (hl pins s1 σ H1 _ I1 q1) fun vl s2 cA=>aB cA fun l H2 I2 pl q2=>eR (hu pins s2 σ H2 _ I2 q2) fun vu s3 dF=>aB dF fun u H3 I3 pu q3=>?_);rw[evalPart_none];refine wpAny_pure ?_;have I4:Inv X pins σ H3 {s3 with heap:=s3.heap.push {cls:= .type "slice",data:= .fields #[vl,vu,.none]}}:=I3.kept (t':=s3.toks) fun b ob q=>Heap.get?_push_of_some _ q;refine aB (hr pins {s3 with heap:=s3.heap.push {cls:= .type "slice",data:= .fields #[vl,vu,.none]}} σ H3 x v vl vu l u s3.heap.objs.size Q I4 r1 (Heap.IsSliceOf.new ..) pl pu q3) fun T id hT ht hg=>?_;show wpAny (model X.prog X.w) X.A (subscriptTail e (.Slice lo hi none p2) v (.ref s3.heap.objs.size)) (EP X pins σ Q) X.xe {s3 with heap:=s3.heap.push {cls:= .type "slice",data:= .fields #[vl,vu,.none]}};exact tail_any (ops:=[.ref s3.heap.objs.size,v]) ht hT hg (by with_unfolding_all rfl)
def mN(xs:List V)(lo hi:Option Int):List V:=(xs.drop (HT.jC xs.length 0 lo)).take (HT.jC xs.length xs.length hi-HT.jC xs.length 0 lo)
theorem AL(xs:List V)(lo hi:Option Int):(mN xs lo hi).length≤xs.length:=by
 unfold mN;rw[aFq,aFp];lia
def aAY(K:W.Frag):V→Option Int→Option Int→Hp→VK→Prop:=fun x lo hi H Q=>∃ a xs,x= .ref a∧gF K H a xs ∧
 ¬(HT.jC xs.length 0 lo=0∧HT.jC xs.length xs.length hi=xs.length)∧∀ p,H p=none→Q (.ref p) (upd H p (.tup (mN xs lo hi)))
theorem aAR:SlR X (aAY X.K):=by
 intro pins s σ H x v vl vu lo hi sl Q I rx hs pl pu h;(refine aN h fun a xs bO hx hw q=>?_;subst bO);cases rx;refine aC (I.tuple hx) fun its r ht hz=>?_;have hlen:its.toArray.size=xs.length:=by rw[aFo];exact r.length.symm
 refine⟨"tuple",_,PyProof.Rows.slot_tuple_getitem.lookup,ht.typeIs,?_⟩;refine HT.xG ht hs pl pu (by rw[hlen];exact hw) ?_ (by rw[hlen];exact hz);rw[hlen];refine⟨.ref s.heap.objs.size,_,I.laid (t':=s.toks) (o:= .tup (mN xs lo hi)) (fun b ob q=>Heap.get?_push_of_some _ q) (aFi _) ?_,rfl,q _ (I.hok.fresh (aFi _))⟩;exact⟨aFt (AL xs lo hi) hz,_,(r.drop (HT.jC xs.length 0 lo)).take (HT.jC xs.length xs.length hi-HT.jC xs.length 0 lo),IsTup.new _ _⟩
end
end L2
namespace L2
open PySem PySem.Spec PyProof.Rows
def RM(n:Nat)(i:Int):Option Nat:=if 0≤i then (if i<n then some i.toNat else none) else if -(n:Int)≤i then some (i+n).toNat else none
def NN{α:Type}(xs:List α)(i:Int):Option α:=(RM xs.length i).bind fun j=>xs[j]?
theorem RL{n:Nat}{i:Int}{j:Nat}(h:RM n i=some j):seqIndex? i n=some j∧j<n∧ -(n:Int)≤i∧i<n:=by
 unfold RM at h;by_cases h0:0≤i
 ·rw[if_pos h0] at h;by_cases h1:i<n
  ·rw[if_pos h1] at h;have e:i.toNat=j:=aFa h;exact⟨by rw[seqIndex_of h0 h1,e],by lia,by lia,h1⟩
  ·rw[if_neg h1] at h;cases h
 ·rw[if_neg h0] at h;by_cases h1: -(n:Int)≤i
  ·rw[if_pos h1] at h;have e:(i+n).toNat=j:=aFa h;exact⟨by rw[seqIndex_neg (by lia) h1,e],by lia,h1,by lia⟩
  ·rw[if_neg h1] at h;cases h
theorem R6{α:Type}{xs:List α}{i:Int}{v:α}(h:NN xs i=some v):∃ j,seqIndex? i xs.length=some j∧xs[j]?=some v∧j<xs.length∧ -(xs.length:Int)≤i∧i<xs.length:=by
 unfold NN at h
 cases e:RM xs.length i with
 | none=>rw[e] at h;cases h
 | some j=>
  rw[e] at h;refine aG (RL e) fun h1 h2 h3 h4=>?_;exact⟨j,h1,h,h2,h3,h4⟩
theorem aAa{α:Type}{xs:List α}{j:Nat}{v:α}(h:xs[j]?=some v):NN xs (j:Int)=some v:=by
 have hj:j<xs.length:=(aFQ.mp h).1;have e:RM xs.length (j:Int)=some j:=by
  unfold RM;rw[if_pos (by lia),if_pos (by lia)];simp
 unfold NN;rw[e];exact h
def aAb(b:Expr):Prop:=∀ o i,subscripted b false o i=operate [o,i] (getItem o i)
def IxR(X:Cx)(r:R2):Prop:=
 ∀ (value slice:Expr) (pins:List (Addr×Obj)) (s:Shared) (σ:St) (H:Hp) (x y:V) (v u:Value) (Q:VK),Inv X pins σ H s→RelV x v→RelV y u→r x y H Q →
  subscripted slice false v u=operate [v,u] (getItem v u)→wpAny (model X.prog X.w) X.A (subscriptTail value slice v u) (EP X pins σ Q) X.xe s
def MtR(X:Cx)(id:String)(r:V→List V→Hp→VK→Prop):Prop:=
 ∀ (pins:List (Addr×Obj)) (s:Shared) (σ:St) (H:Hp) (x:V) (xs:List V) (v:Value) (us:List Value) (Q:VK),Inv X pins σ H s→RelV x v→Vals xs us→r x xs H Q →
  wpAny (model X.prog X.w) X.A (call (.builtin id) (v::us)) (EP X pins σ Q) X.xe s
section
variable{X:Cx}{a b:Expr}{ta tb:TE}{pos:Pos}
theorem cC{r:R2}(hr:IxR X r)(ha:PE X a ta)(hb:PE X b tb)(hs:aAb b):PE X (.Subscript a b pos) (tOp r ta tb):=by
 intro pins s σ H Q I h;exact Subscript_ (aBP ha hb I h fun v u s2 x y H2 I2 rx ry q=>hr a b pins s2 σ H2 x y v u Q I2 rx ry q (hs _ _))
def VL(K:W.Frag):R2:=fun x y H Q=>∃ p xs i v,x= .ref p∧y= .int i∧cT K H p xs∧NN xs i=some v∧Q v H
def YS(K:W.Frag):R2:=fun x y H Q=>∃ p xs i v,x= .ref p∧y= .int i∧gF K H p xs∧NN xs i=some v∧Q v H
theorem bZ:IxR X (VL X.K):=by
 intro value slice pins s σ H x y v u Q I rx ry h hs;(refine aE h fun p xs i bO=>?_;refine aO bO fun z cA dF hq he q=>?_;subst cA;subst dF);cases rx;obtain⟨t,rfl⟩:=ry;refine aC (I.list hq) fun its r pl hz=>?_;refine aO (R6 he) fun j h1 h2 h3 h4 h5=>?_;refine aA (r.get h2) fun w ew rw'=>?_;have hl:=r.length;have hn:=DV;have fin:EP X pins σ Q w s:=⟨z,H,I,rw',q⟩;by_cases h0:0≤i
 ·have hj:i.toNat=j:=by
   rw[seqIndex_of h0 h5] at h1;exact aFa h1
  exact item_listR pl.isList h0 (by lia) (by rw[hj];simpa using ew) fin hs
 ·have hj:(i+(its.toArray.size:Int)).toNat=j:=by
   rw[seqIndex_neg (by lia) h4] at h1;rw[aFo,←hl];exact aFa h1
  exact subscriptTail_builtinR (x:=w) pl.isList.typeIs slot_list_getitem.lookup
   (wpAny_getItem_list_neg (Q:=fun r s'=>r=w∧EP X pins σ Q r s') pl.isList (by lia) (by rw[aFo] <;> lia) (by lia) (by rw[hj];simpa using ew) ⟨rfl,fin⟩) hs
theorem dS:IxR X (YS X.K):=by
 intro value slice pins s σ H x y v u Q I rx ry h hs;(refine aE h fun p xs i bO=>?_;refine aO bO fun z cA dF hq he q=>?_;subst cA;subst dF);cases rx;obtain⟨t,rfl⟩:=ry;refine aC (I.tuple hq) fun its r pl hz=>?_;refine aO (R6 he) fun j h1 h2 h3 h4 h5=>?_;refine aA (r.get h2) fun w ew rw'=>?_;have hl:=r.length;have hn:=DV;have fin:EP X pins σ Q w s:=⟨z,H,I,rw',q⟩;exact subscriptTail_builtinR (x:=w) pl.typeIs slot_tuple_getitem.lookup
  (getItem_tuple (j:=j) (Q:=fun r s'=>r=w∧EP X pins σ Q r s') pl (by lia) (by lia) (by rw[aFo,←hl];exact h1) (by simpa using ew) ⟨rfl,fin⟩) hs
theorem O8(its:List Value)(n j:Nat)(u:Value):Obj.mapSeq (·.setIfInBounds j u) {cls:= .type "list",data:= .seq its.toArray n}={cls:= .type "list",data:= .seq (its.set j u).toArray n}:=by
 simp [Obj.mapSeq]
theorem Inv.lst{pins:List (Addr×Obj)}{σ:St}{H:Hp}{s:Shared}{p:Addr}{xs:List V}(I:Inv X pins σ H s)(h:H p=some (.lst xs)):
  ∃ (its:List Value) (n:Nat),Vals xs its∧s.heap.get? p=some {cls:= .type "list",data:= .seq its.toArray n}∧xs.length≤sizeLine:=by
 (refine aD (I.hok p _ h) fun z bO=>?_;refine aH bO fun its n r e=>?_);exact⟨its,n,r,e,z⟩
theorem Inv.aBm{pins:List (Addr×Obj)}{σ:St}{H:Hp}{s:Shared}{p:Addr}{xs ys:List V}{its its':List Value}{n n':Nat}{f:Obj→Obj}(I:Inv X pins σ H s)(h:H p=some (.lst xs))
  (ho:s.heap.get? p=some {cls:= .type "list",data:= .seq its.toArray n}) (hf:f {cls:= .type "list",data:= .seq its.toArray n}={cls:= .type "list",data:= .seq its'.toArray n'}) (r:Vals ys its') (hz:ys.length≤sizeLine) (t:Nat):
  Inv X pins σ (upd H p (.lst ys)) {s with heap:=s.heap.update p f,toks:=t}:=by
 have e:(s.heap.update p f).get? p=some {cls:= .type "list",data:= .seq its'.toArray n'}:=by
  rw[Heap.get?_update_self f ho (by rw[hf] <;> rfl),hf]
 refine I.write (x:=p) (e:=p) (by rw[h];trivial) (.inl rfl) (fun b u hb q=>(Heap.get?_update_other _ _ (Ne.symm hb)).trans q) ⟨_,e⟩ ?_;exact⟨hz,its',n',r,e⟩
def QZ:V→V→V→Hp→(Hp→Prop)→Prop:=fun o i v H Q=>∃ p xs k j,o= .ref p∧i= .int k∧H p=some (.lst xs)∧RM xs.length k=some j∧Q (upd H p (.lst (xs.set j v)))
theorem set_list:aCZ X QZ:=by
 intro pins s σ H o i v ov iv u Q I ro ri rv h;(refine aE h fun p xs k bO=>?_;refine aO bO fun j cA dF hp hj q=>?_;subst cA;subst dF);cases ro;obtain⟨t,rfl⟩:=ri;refine aB (I.lst hp) fun its n r ho hz=>?_;refine aG (RL hj) fun h1 h2 h3 h4=>?_;have hl:=r.length;have hn:=DV;have I':Inv X pins σ (upd H p (.lst (xs.set j v))) {s with heap:=s.heap.update p (Obj.mapSeq (·.setIfInBounds j u))}:=
  I.aBm hp ho (O8 its n j u) (r.set rv j) (by rw[List.length_set];exact hz) s.toks
 by_cases h0:0≤k
 ·have hk:k.toNat=j:=by
   rw[seqIndex_of h0 h4] at h1;exact aFa h1
  exact W.ki_setAt ho h0 (by lia) (by rw[aFo,←hl];exact h4) (by rw[hk];exact⟨_,I',q⟩)
 ·have hk:(k+(its.toArray.size:Int)).toNat=j:=by
   rw[seqIndex_neg (by lia) h3] at h1;rw[aFo,←hl];exact aFa h1
  exact W.ki_setBack ho (by lia) (by rw[aFo,←hl];exact h3) (by lia) (by rw[hk];exact⟨_,I',q⟩)
theorem IG(lo hi:Option Int)(n:Nat):(sliceBounds lo hi none n).1=((HT.jC n 0 lo:Nat):Int)∧(sliceBounds lo hi none n).2.1=((HT.jC n n hi:Nat):Int)∧(sliceBounds lo hi none n).2.2=1:=by
 refine⟨?_,?_,rfl⟩
 ·cases lo with
  | none=>simp [sliceBounds,HT.jC]
  | some i=>
   simp only[sliceBounds,HT.jC,Option.getD_none,show (1:Int)>0 by decide,if_true];by_cases h:i<0
   ·simp only[h,if_true] <;> lia
   ·simp only[h,if_false] <;> lia
 ·cases hi with
  | none=>simp [sliceBounds,HT.jC]
  | some i=>
   simp only[sliceBounds,HT.jC,Option.getD_none,show (1:Int)>0 by decide,if_true];by_cases h:i<0
   ·simp only[h,if_true] <;> lia
   ·simp only[h,if_false] <;> lia
theorem E5(its:List Value)(lo hi:Option Int):slicePick its.toArray lo hi none=((its.drop (HT.jC its.length 0 lo)).take (HT.jC its.length its.length hi-HT.jC its.length 0 lo)).toArray:=by
 refine aF (IG lo hi its.toArray.size) fun h1 h2 h3=>?_;unfold slicePick;rw[h1,h2,h3];simp only[sliceRange_one,pick_run,aFo] <;> rfl
def YR(K:W.Frag):V→Option Int→Option Int→Hp→VK→Prop:=fun x lo hi H Q=>∃ a xs,x= .ref a∧cT K H a xs∧∀ p,H p=none→Q (.ref p) (upd H p (.lst (mN xs lo hi)))
theorem m9:SlR X (YR X.K):=by
 intro pins s σ H x v vl vu lo hi sl Q I rx hs pl pu h;(refine aB h fun a xs bO hx q=>?_;subst bO);cases rx;refine aC (I.list hx) fun its r ht hz=>?_;have hlen:=r.length;refine⟨"list",_,slot_list_getitem.lookup,ht.isList.typeIs,?_⟩;refine wpAny_getItem_list_slice ht.isList hs pl pu .none (by simp) ?_ (by rw[aFo] <;> lia);rw[E5,←hlen];refine⟨.ref s.heap.objs.size,_,I.laid (t':=s.toks) (o:= .lst (mN xs lo hi)) (fun b ob q=>Heap.get?_push_of_some _ q) (aFi _) ?_,rfl,q _ (I.hok.fresh (aFi _))⟩;exact⟨aFt (AL xs lo hi) hz,_,0,(r.drop (HT.jC xs.length 0 lo)).take (HT.jC xs.length xs.length hi-HT.jC xs.length 0 lo),Heap.get?_push_size _ rfl⟩
def xI:V→Bool
 | .non=>true
 | .bl _=>true
 | .int _=>true
 | .str _=>true
 | _=>false
def Z0:V→V→Bool
 | .non,.non=>true
 | .bl a,.bl b=>a==b
 | .bl a,.int b=>(if a then 1 else 0)==b
 | .int a,.bl b=>a==(if b then 1 else 0)
 | .int a,.int b=>a==b
 | .str a,.str b=>a==b
 | _,_=>false
theorem aBG{A:Around}{s:Shared}{y x:V}{u v:Value}(ry:RelV y u)(rx:RelV x v)(fy:xI y=true)(fx:xI x=true):SeqAt.EqAt A s u v (Z0 y x):=by
 cases y with
 | non=>
  cases ry
  cases x with
  | non=>cases rx;exact SeqAt.EqAt.same _
  | bl b=>cases rx;exact SeqAt.EqAt.none_bool b
  | int b=>obtain⟨t,rfl⟩:=rx;exact SeqAt.EqAt.none_int b t
  | str b=>obtain⟨t,rfl⟩:=rx;exact SeqAt.EqAt.none_str b t
  | _=>exact absurd (show false=true from fx) Bool.false_ne_true
 | bl a=>
  cases ry
  cases x with
  | non=>cases rx;exact SeqAt.EqAt.bool_none a
  | bl b=>cases rx;exact SeqAt.EqAt.bool_bool a b
  | int b=>obtain⟨t,rfl⟩:=rx;exact SeqAt.EqAt.bool_int a b t
  | str b=>obtain⟨t,rfl⟩:=rx;exact SeqAt.EqAt.bool_str a b t
  | _=>exact absurd (show false=true from fx) Bool.false_ne_true
 | int a=>
  obtain⟨t',rfl⟩:=ry
  cases x with
  | non=>cases rx;exact SeqAt.EqAt.int_none a t'
  | bl b=>cases rx;exact SeqAt.EqAt.int_bool a t' b
  | int b=>obtain⟨t,rfl⟩:=rx;exact SeqAt.EqAt.int_int a t' b t
  | str b=>obtain⟨t,rfl⟩:=rx;exact SeqAt.EqAt.int_str a t' b t
  | _=>exact absurd (show false=true from fx) Bool.false_ne_true
 | str a=>
  obtain⟨t',rfl⟩:=ry
  cases x with
  | non=>cases rx;exact SeqAt.EqAt.str_none a t'
  | bl b=>cases rx;exact SeqAt.EqAt.str_bool a t' b
  | int b=>obtain⟨t,rfl⟩:=rx;exact SeqAt.EqAt.str_int a t' b t
  | str b=>obtain⟨t,rfl⟩:=rx;exact SeqAt.EqAt.str_str a t' b t
  | _=>exact absurd (show false=true from fx) Bool.false_ne_true
 | _=>exact absurd (show false=true from fy) Bool.false_ne_true
def Z1(x:V)(u:Value):Bool:=match u with
 | .none=>Z0 .non x
 | .bool b=>Z0 (.bl b) x
 | .int i _=>Z0 (.int i) x
 | .str z _=>Z0 (.str z) x
 | _=>false
theorem W9{x y:V}{u:Value}(r:RelV y u)(f:xI y=true):Z1 x u=Z0 y x:=by
 cases y with
 | non=>cases r;rfl
 | bl b=>cases r;rfl
 | int i=>obtain⟨t,rfl⟩:=r;rfl
 | str z=>obtain⟨t,rfl⟩:=r;rfl
 | _=>exact absurd (show false=true from f) Bool.false_ne_true
theorem JZ{x:V}:∀ {xs:List V} {us:List Value},Vals xs us→xs.all xI=true→us.any (Z1 x)=xs.any fun y=>Z0 y x
 | _,_,.nil,_=>rfl
 | y::xs,u::us,.cons r t,f=>by
  rw[List.all_cons,aFg] at f;rw[List.any_cons,List.any_cons,W9 r f.1,JZ t f.2]
theorem DS{A:Around}{s:Shared}{x:V}{v:Value}(rx:RelV x v)(fx:xI x=true):∀ {xs:List V} {us:List Value},Vals xs us→xs.all xI=true→∀ u∈us,SeqAt.EqAt A s u v (Z1 x u)
 | _,_,.nil,_=>fun u hu=>by cases hu
 | y::xs,u::us,.cons r t,f=>fun u' hu=>by
  rw[List.all_cons,aFg] at f;rcases aEZ.mp hu with rfl | hu
  ·rw[W9 r f.1];exact aBG r rx f.1 fx
  ·exact DS rx fx t f.2 u' hu
def inV(x:V)(xs:List V):Bool:=xs.any fun y=>Z0 y x
def rIn(K:W.Frag)(neg:Bool):R2:=fun x y H Q=>∃ p xs,y= .ref p∧(cT K H p xs∨gF K H p xs)∧xI x=true∧xs.all xI=true∧Q (.bl (if neg then !inV x xs else inV x xs)) H
theorem sU:AQ X (compareOp .In) (rIn X.K false):=by
 intro pins s σ H x y v u Q I rx ry h;(refine aT h fun p xs bO hq fx fs q=>?_;subst bO);cases ry;rcases hq with hq | hq
 ·refine aC (I.list hq) fun its r pl hz=>?_;refine SeqAt.in_listAt (Z1 x) pl.isList (fun w hw=>DS rx fx r fs w (by simpa using hw)) ⟨.bl _,H,I,rfl,?_⟩;rw[show its.toArray.any (Z1 x)=its.any (Z1 x) by simp,JZ r fs];exact q
 ·refine aC (I.tuple hq) fun its r pl hz=>?_;refine SeqAt.in_tupleAt (Z1 x) pl (fun w hw=>DS rx fx r fs w (by simpa using hw)) ⟨.bl _,H,I,rfl,?_⟩;rw[show its.toArray.any (Z1 x)=its.any (Z1 x) by simp,JZ r fs];exact q
theorem bQ:AR X (.builtin "len") (fun xs H Q=>∃ p ys,xs=[.ref p]∧(cT X.K H p ys∨gF X.K H p ys)∧Q (.int ys.length) H):=by
 intro pins s σ H xs us Q I r h;(refine aB h fun p ys bO hq q=>?_;subst bO);(refine aA (vals1 r) fun u cA rx=>?_;subst cA);cases rx;have hn:=DV;rcases hq with hq | hq
 ·refine aC (I.list hq) fun its r' pl hz=>?_;have hlen:=r'.length;exact Calls.call_len_list pl.isList (by simp only[aFo] <;> lia) ⟨.int ys.length,H,I.tok _,⟨s.toks+1,by rw[aFo,hlen]⟩,q⟩
 ·refine aC (I.tuple hq) fun its r' pl hz=>?_;have hlen:=r'.length;exact len_tuple pl (by simp only[aFo] <;> lia) ⟨.int ys.length,H,I.tok _,⟨s.toks+1,by rw[aFo,hlen]⟩,q⟩
theorem xN:AR X (.type "list") (fun xs H Q=>∃ p ys,xs=[.ref p]∧(cT X.K H p ys∨gF X.K H p ys)∧∀ l,H l=none→Q (.ref l) (upd H l (.lst ys))):=by
 intro pins s σ H xs us Q I r h;(refine aB h fun p ys bO hq q=>?_;subst bO);(refine aA (vals1 r) fun u cA rx=>?_;subst cA);cases rx;have fin:∀ (its:List Value),Vals ys its→ys.length≤sizeLine→∀ (h':Heap) (c':Nat),(∀ b o',s.heap.get? b=some o'→h'.get? b=some o') →
   h'.get? s.heap.objs.size=some {cls:= .type "list",dict:=none,data:= .seq its.toArray c',slots:=#[]}→EP X pins σ Q (.ref s.heap.objs.size) {s with heap:=h'}:=fun its r' hz h' c' kp e=>
  ⟨.ref s.heap.objs.size,_,I.laid (t':=s.toks) kp (aFi _) (show jH X.prog X.w _ h' _ (.lst ys) from ⟨hz,its,c',r',e⟩),rfl,q _ (I.hok.fresh (aFi _))⟩
 rcases hq with hq | hq
 ·refine aC (I.list hq) fun its r' pl hz=>?_;have hlen:=r'.length;(refine aC pl.isList fun o ho hc dF=>?_;refine aV dF fun n hd=>?_);exact call_list_seq p (.inl rfl) ho hc hd (fun h' c' kp e=>fin its r' hz h' c' kp e) (by simp only[aFo] <;> lia)
 ·refine aC (I.tuple hq) fun its r' pl hz=>?_;have hlen:=r'.length;(refine aC pl fun o ho hc eX=>?_;refine aV eX fun n hd=>?_);exact call_list_seq p (.inr rfl) ho hc hd (fun h' c' kp e=>fin its r' hz h' c' kp e) (by simp only[aFo] <;> lia)
theorem FR:AR X (.type "tuple") (fun xs H Q=>∃ p ys,xs=[.ref p]∧((cT X.K H p ys∧∀ l,H l=none→Q (.ref l) (upd H l (.tup ys)))∨(gF X.K H p ys∧Q (.ref p) H))):=by
 intro pins s σ H xs us Q I r h;obtain⟨p,ys,rfl,h⟩:=h;obtain⟨u,rfl,rx⟩:=vals1 r;cases rx;rcases h with ⟨hq,q⟩ | ⟨hq,q⟩
 ·obtain⟨its,r',pl,hz⟩:=I.list hq;have hlen:=r'.length;refine call_tuple_list pl.isList (fun h' kp=>?_) (by simp only[aFo] <;> lia);have I1:Inv X pins σ H {s with heap:=h'}:=I.kept (t':=s.toks) kp;have I2:Inv X pins σ (upd H h'.objs.size (.tup ys)) {s with heap:=h'.push {cls:= .type "tuple",data:= .seq its.toArray}}:=
   I1.laid (t':=s.toks) (fun b o e=>Heap.get?_push_of_some _ e) (aFi _) (show jH X.prog X.w _ _ _ (.tup ys) from ⟨hz,its,r',IsTup.new _ _⟩)
  exact⟨.ref h'.objs.size,_,I2,rfl,q _ (I1.hok.fresh (aFi _))⟩
 ·obtain⟨its,r',pl,hz⟩:=I.tuple hq;exact call_tuple_same pl ⟨.ref p,H,I,rfl,q⟩
def tyV(K:W.Frag)(T:String)(x:V)(H:Hp):Prop:=match x with
 | .str _=>T="str"
 | .int _=>T="int"
 | .ref p=>(T="list"∧∃ xs,cT K H p xs)∨(T="tuple"∧∃ o,K.lookup p=some o∧o.cls= .type "tuple"∧o.dict=none) ∨
   (T="dict"∧((∃ kvs,H p=some (.dK kvs))∨∃ kvs,H p=some (.dT kvs)))∨(T="set"∧∃ S n,H p=some (.set S n))
 | _=>False
theorem U0{pins:List (Addr×Obj)}{σ:St}{H:Hp}{s:Shared}{T:String}{x:V}{v:Value}(I:Inv X pins σ H s)(r:RelV x v)(ty:tyV X.K T x H):
  s.TypeIs v T∧∀ a,v= .ref a→∃ ob,s.heap.get? a=some ob∧ob.dict=none:=by
 cases x with
 | str z=>
  obtain⟨t,rfl⟩:=r;cases (show T="str" from ty);exact⟨typeIs_str s z t,fun _ e=>nomatch e⟩
 | int i=>
  obtain⟨t,rfl⟩:=r;cases (show T="int" from ty);exact⟨typeIs_int s i t,fun _ e=>nomatch e⟩
 | ref p=>
  cases r;rcases ty with ⟨rfl,xs,hq⟩ | ⟨rfl,o,hk,hc,hd⟩ | ⟨rfl,hk⟩ | ⟨rfl,S,n,hk⟩
  ·refine aC (I.list hq) fun its _ pl _=>?_;refine⟨pl.isList.typeIs,fun a e=>?_⟩;cases e;refine aN pl fun o n e c hd _=>?_;exact⟨o,e,hd⟩
  ·refine⟨⟨o,I.D3 p o hk,hc⟩,fun a e=>?_⟩;cases e;exact⟨o,I.D3 _ o hk,hd⟩
  ·have z:∃ o,s.heap.get? p=some o∧o.ExactDict:=by
    rcases hk with ⟨kvs,hk⟩ | ⟨kvs,hk⟩
    ·(refine aF (I.hok p _ hk) fun _ _ bO=>?_;refine aA bO fun _ _ cA=>?_;refine aJ cA fun o _ _ e ex _=>?_);exact⟨o,e,ex⟩
    ·(refine aF (I.hok p _ hk) fun _ _ dF=>?_;refine aA dF fun _ _ eX=>?_;refine aJ eX fun o _ _ e ex _=>?_);exact⟨o,e,ex⟩
   refine aA z fun o e ex=>?_;refine⟨⟨o,e,ex.1⟩,fun a e2=>?_⟩;cases e2;exact⟨o,e,ex.2.1⟩
  ·(refine aE (I.hok p _ hk) fun o _ _ hE=>?_;refine aC hE fun _ e ex _=>?_);refine⟨⟨o,e,ex.1⟩,fun a e2=>?_⟩;cases e2;exact⟨o,e,ex.2.1⟩
 | _=>exact False.elim ty
def aAG(K:W.Frag)(T:String)(r:V→List V→Hp→VK→Prop)(to:TE):TE:=fun σ H Q=>to σ H fun x H1=>tyV K T x H1∧r x [] H1 Q
def tBM(K:W.Frag)(T:String)(r:V→List V→Hp→VK→Prop)(to:TE)(t:TA):TE:=fun σ H Q=>to σ H fun x H1=>tyV K T x H1∧t σ H1 fun xs H2=>r x xs H2 Q
variable{o e:Expr}{es:List Expr}{to:TE}{t:TA}{name:Str}{apos cpos:Pos}{T id:String}{r:V→List V→Hp→VK→Prop}
theorem rH(pa:PlainAttrs T)(slot:Slot T name id)(hty:typeOf (.builtin id)=pure (.type "method_descriptor"))(hm:MtR X id r)(ho:PE X o to)
  (hbase:attributeBase o name X.env (eval o X.env)=eval o X.env:=by rfl) (hline:(apos.endLine==cpos.line)=true:=by rfl):PE X (.Call (.Attribute o name apos) [] [] cpos) (aAG X.K T r to):=by
 intro pins s σ H Q I h;refine wpAny_Call_method0_late hbase hline (eR (ho pins s σ H _ I h) fun v s1 bO=>aN bO fun x H1 I1 r1 ty q1=>?_);obtain⟨h1,h2⟩:=U0 I1 r1 ty;exact⟨T,id,pa,slot,hty,h1,h2,Calls.callWith_builtin rfl (PySem.evalArgs_none (hm pins s1 σ H1 x [] v [] Q I1 r1 .nil q1))⟩
theorem o0(pa:PlainAttrs T)(slot:Slot T name id)(hty:typeOf (.builtin id)=pure (.type "method_descriptor"))(hm:MtR X id r)(ho:PE X o to)(ha:PA X (e::es) t)
  (hbase:attributeBase o name X.env (eval o X.env)=eval o X.env:=by rfl)
  (hfew:((backTo cpos (starEach (e::es) X.env)).all (fun x=> !x.1)&&(backToKw cpos (keywordEach [] X.env)).all (fun x=>x.1.isSome)
   && decide ((e::es).length+([]:List Keyword).length+(if ([]:List Keyword).isEmpty then 0 else 1)<30))=true:=by rfl)
  (hline:(apos.endLine==cpos.line)=true:=by rfl) (hs:starEach (e::es) X.env=(false,eval e X.env)::starEach es X.env:=by rfl) (hplain:(backTo cpos (starEach es X.env)).any (·.1)=false:=by rfl):
  PE X (.Call (.Attribute o name apos) (e::es) [] cpos) (tBM X.K T r to t):=by
 intro pins s σ H Q I h;refine wpAny_Call_method_late hbase hfew hline rfl (eR (ho pins s σ H _ I h) fun v s1 bO=>aN bO fun x H1 I1 r1 ty q1=>?_);obtain⟨h1,h2⟩:=U0 I1 r1 ty;refine⟨T,id,pa,slot,hty,h1,h2,?_⟩;have hA:=ha cpos pins s1 σ H1 _ I1 q1;rw[hs] at hA ⊢;refine Calls.callWith_builtin (by show (false||(backTo cpos (starEach es X.env)).any (·.1))=false;rw[hplain] <;> rfl) (Calls.evalArgs_plain ?_);exact eR hA fun us s2 cA=>aB cA fun vs H2 I2 r2 q2=>hm pins s2 σ H2 x vs v us Q I2 r1 r2 q2
end
end L2
namespace L2
open PySem PySem.Spec PyProof.Rows
def MtM(X:Cx)(id:String)(r:V→List V→Hp→VK→Prop):Prop:=
 ∀ (pins:List (Addr×Obj)) (s:Shared) (σ:St) (H:Hp) (x:V) (xs:List V) (v:Value) (us:List Value) (Q:VK),Inv X pins σ H s→RelV x v→Vals xs us→r x xs H Q →
  wpAny (model X.prog X.w) X.A (call (.builtin id) (v::us)) (EP X pins σ Q) X.xe s
theorem Vals.one:∀ {x:V} {us:List Value},Vals [x] us→∃ u,us=[u]∧RelV x u
 | _,_,.cons r .nil=>⟨_,rfl,r⟩
theorem Vals.zero:∀ {us:List Value},Vals [] us→us=[]
 | _,.nil=>rfl
theorem Vals.dropLast{xs:List V}{us:List Value}(h:Vals xs us):Vals xs.dropLast us.dropLast:=by
 induction h with
 | nil=>exact .nil
 | cons r t ih=>
  cases t with
  | nil=>exact .nil
  | cons q t'=>exact .cons r ih
theorem Vals.rep{xs:List V}{us:List Value}(h:Vals xs us):∀ k:Nat,Vals (List.replicate k xs).flatten (List.replicate k us).flatten
 | 0=> .nil
 | k+1=>by
  rw[List.replicate_succ,List.replicate_succ,aFI,aFI];exact Vals.append h (Vals.rep h k)
theorem PY{α:Type}(l:List α):l.eraseIdx (l.length-1)=l.dropLast:=by
 induction l with
 | nil=>rfl
 | cons a r ih=>
  cases r with
  | nil=>rfl
  | cons b r=>
   have e:(a::b::r).length-1=((b::r).length-1)+1:=by
    have h1:(a::b::r).length=r.length+2:=rfl;have h2:(b::r).length=r.length+1:=rfl;lia
   rw[e,List.eraseIdx_cons_succ,ih]
   all_goals rfl
theorem foldl_rep(its:List Value):∀ (k:Nat) (acc:List Value),
  List.foldl (fun x1 x2=>x1++x2) acc.toArray (List.replicate k its.toArray)=(acc++(List.replicate k its).flatten).toArray
 | 0,acc=>by simp
 | k+1,acc=>by
  have e:acc.toArray++its.toArray=(acc++its).toArray:=by simp
  have e2:(acc++its)++(List.replicate k its).flatten=acc++(List.replicate (k+1) its).flatten:=by
   rw[List.replicate_succ,aFI,aFJ]
  rw[←e2,←foldl_rep its k (acc++its),←e,List.replicate_succ,List.foldl_cons]
section
variable{X:Cx}{pins:List (Addr×Obj)}{σ:St}{H:Hp}{s:Shared}{l b:Addr}{xs ys zs:List V}
theorem Inv.aBn{its its':List Value}{n:Nat}{f:Array Value→Array Value}{t':Nat}(I:Inv X pins σ H s)(hH:H l=some (.lst xs))
  (e:s.heap.get? l=some {cls:= .type "list",data:= .seq its.toArray n}) (hf:f its.toArray=its'.toArray) (hv:Vals ys its') (hz:ys.length≤sizeLine):
  Inv X pins σ (upd H l (.lst ys)) {s with heap:=s.heap.update l (Obj.mapSeq f),toks:=t'}:=by
 have q:=PySem.IsL.update e f;rw[hf] at q;refine I.write (x:=l) (e:=l) (by rw[hH];exact trivial) (.inl rfl) (fun b' u hb hu=>(Heap.get?_update_other s.heap (Obj.mapSeq f) (Ne.symm hb)).trans hu) ⟨_,q⟩ ?_;exact⟨hz,its',_,hv,q⟩
theorem Inv.aCz{its:List Value}{t':Nat}(I:Inv X pins σ H s)(hv:Vals ys its)(hz:ys.length≤sizeLine):
  Inv X pins σ (upd H s.heap.objs.size (.lst ys)) {s with heap:=s.heap.push {cls:= .type "list",data:= .seq its.toArray},toks:=t'}:=
 I.laid (fun _ _ q=>Heap.get?_push_of_some _ q) (aFi _) ⟨hz,its,0,hv,Heap.get?_push_size _ rfl⟩
theorem Inv.fresh(I:Inv X pins σ H s):H s.heap.objs.size=none:=I.hok.fresh (aFi _)
theorem Inv.PH(I:Inv X pins σ H s)(hH:H l=some (.lst xs)):xs.length≤sizeLine∧∃ (its:List Value) (n:Nat),Vals xs its∧xs.length=its.length∧s.heap.get? l=some {cls:= .type "list",data:= .seq its.toArray n}:=by
 (refine aD (I.hok l _ hH) fun z bO=>?_;refine aH bO fun its n r e=>?_);exact⟨z,its,n,r,r.length,e⟩
theorem L8{n:Nat}(h:n≤sizeLine):Builtin.List.listTooLong n=false:=by
 unfold Builtin.List.listTooLong;exact decide_eq_false (by lia)
end
section
variable{X:Cx}
def BC:V→List V→Hp→VK→Prop:=fun x vs H Q=>∃ l xs y,x= .ref l∧vs=[y]∧H l=some (.lst xs)∧xs.length<sizeLine∧Q .non (upd H l (.lst (xs++[y])))
theorem fK:MtM X "list.append" BC:=by
 intro pins s σ H x vs v us Q I rx rv h;(refine aS h fun l xs y bO cA hH hz q=>?_;subst bO;subst cA);cases rx;(refine aA rv.one fun u dF ru=>?_;subst dF);(refine aD (I.PH hH) fun z eX=>?_;refine aB eX fun its n r hl e=>?_);refine call_meets F.slot_list_append ⟨_,e,rfl⟩ F.entry_list_append (F.args_list_append_2 _ _) (PySem.list_append l its.toArray n u (by rw[aFo];lia)) ⟨e,?_⟩;refine⟨.non,_,I.aBn (its':=its++[u]) hH e (by simp) (r.append (.cons ru .nil)) ?_,rfl,q⟩;rw[aFb,List.length_singleton];lia
def YT:V→List V→Hp→VK→Prop:=fun x vs H Q=>∃ l b xs zs,x= .ref l∧vs=[.ref b]∧H l=some (.lst xs)∧H b=some (.lst zs)∧xs.length+zs.length≤sizeLine∧Q .non (upd H l (.lst (xs++zs)))
theorem GW:MtM X "list.extend" YT:=by
 intro pins s σ H x vs v us Q I rx rv h;(refine aE h fun l b xs bO=>?_;refine aU bO fun zs cA dF hH hB hz q=>?_;subst cA;subst dF);cases rx;(refine aA rv.one fun u eX ru=>?_;subst eX);cases ru;(refine aD (I.PH hH) fun z hE=>?_;refine aB hE fun its n r hl e=>?_);(refine aD (I.PH hB) fun z2 p9=>?_;refine aB p9 fun its2 n2 r2 hl2 e2=>?_);have hsz:its.toArray.size+its2.toArray.size≤sizeLine:=by rw[aFo,aFo];lia
 have WT:¬(!its.toArray.isEmpty&&Builtin.List.listTooLong (its.toArray.size+its2.toArray.size))=true:=by
  rw[L8 hsz,Bool.and_false];exact Bool.false_ne_true
 refine call_meets F.slot_list_extend ⟨_,e,rfl⟩ F.entry_list_extend (F.args_list_extend_2 _ _)
  (AutoSeq1.list_extend_list_list_0 l its.toArray n b its2.toArray n2 WT (by rw[aFo];lia) (by lia)) ⟨e,e2,?_⟩
 refine⟨.non,_,I.aBn (its':=its++its2) hH e (by simp) (r.append r2) ?_,rfl,q⟩;rw[aFb];lia
def aDK:V→List V→Hp→VK→Prop:=fun x vs H Q=>∃ l xs y,x= .ref l∧vs=[]∧H l=some (.lst xs)∧xs[xs.length-1]?=some y∧Q y (upd H l (.lst xs.dropLast))
theorem vC:MtM X "list.pop" aDK:=by
 intro pins s σ H x vs v us Q I rx rv h;(refine aS h fun l xs y bO cA hH hy q=>?_;subst bO;subst cA);cases rx;have hus:=rv.zero;subst hus;(refine aD (I.PH hH) fun z dF=>?_;refine aB dF fun its n r hl e=>?_);refine aA (r.get hy) fun u hu ru=>?_;have hy':its.toArray[its.toArray.size-1]?=some u:=by
  show its.toArray[its.length-1]?=some u;rw[←Array.getElem?_toList,←hl];exact hu
 refine call_meets F.slot_list_pop ⟨_,e,rfl⟩ F.entry_list_pop (F.args_list_pop_1 _) (MeetsSeq.list_pop_last l its.toArray n u hy' (by rw[aFo];lia)) ⟨e,?_⟩;refine⟨y,_,I.aBn (its':=its.dropLast) hH e ?_ r.dropLast ?_,ru,q⟩
 ·show its.toArray.eraseIdxIfInBounds (its.toArray.size-1)=its.dropLast.toArray;rw[aFo,List.eraseIdxIfInBounds_toArray,PY]
 ·rw[List.length_dropLast];lia
def YU:R2:=fun x y H Q=>∃ l b xs zs,x= .ref l∧y= .ref b∧H l=some (.lst xs)∧H b=some (.lst zs)∧xs.length+zs.length≤sizeLine∧∀ p,H p=none→Q (.ref p) (upd H p (.lst (xs++zs)))
theorem jU:AQ X (binaryOp .Add) YU:=by
 intro pins s σ H x y v u Q I rx ry h;(refine aE h fun l b xs bO=>?_;refine aU bO fun zs cA dF hH hB hz q=>?_;subst cA;subst dF);cases rx;cases ry;(refine aD (I.PH hH) fun z eX=>?_;refine aB eX fun its n r hl e=>?_);(refine aD (I.PH hB) fun z2 hE=>?_;refine aB hE fun its2 n2 r2 hl2 e2=>?_);refine PySem.P.add_list e e2 ?_ (by rw[aFo,aFo];lia);have ea:its.toArray++its2.toArray=(its++its2).toArray:=by simp
 rw[ea];exact⟨.ref _,_,I.aCz (t':=s.toks) (r.append r2) (by rw[aFb];lia),rfl,q _ I.fresh⟩
def aAZ:R2:=fun x y H Q=>∃ l k xs,x= .ref l∧y= .int k∧H l=some (.lst xs)∧ -(2 ^ 63)≤k∧k<2 ^ 63∧xs.length*k.toNat≤sizeLine ∧
 ∀ p,H p=none→Q (.ref p) (upd H p (.lst (List.replicate k.toNat xs).flatten))
theorem len_rep{α:Type}(xs:List α)(k:Nat):(List.replicate k xs).flatten.length=k*xs.length:=by
 induction k with
 | zero=>simp
 | succ k ih=>rw[List.replicate_succ,aFI,aFb,ih,Nat.succ_mul,Nat.add_comm]
theorem OR:AQ X (binaryOp .Mult) aAZ:=by
 intro pins s σ H x y v u Q I rx ry h;(refine aX h fun l k xs bO cA hH h1 h2 dF=>?_;refine aD dF fun hz q=>?_;subst bO;subst cA);cases rx;obtain⟨t,rfl⟩:=ry;(refine aD (I.PH hH) fun z eX=>?_;refine aB eX fun its n r hl e=>?_);have hlen:its.toArray.size*k.toNat≤sizeLine:=by rw[aFo,←hl];exact hz
 have hcap:¬its.toArray.size*k.toNat>(2 ^ 63-1) / 8:=by
  have:(sizeLine:Nat)≤(2 ^ 63-1) / 8:=by decide
  lia
 have hfit:¬(!Builtin.List.listFitsIndex k)=true:=by
  rw[fitsIndex_both h1 h2];exact Bool.false_ne_true
 have WT:¬Builtin.List.listTooLong (its.toArray.size*k.toNat)=true:=by
  rw[L8 hlen];exact Bool.false_ne_true
 have hnew:List.foldl (fun x1 x2=>x1++x2) #[] (List.replicate (if its.toArray.isEmpty=true then 0 else k.toNat) its.toArray)=(List.replicate k.toNat its).flatten.toArray:=by
  have f0:∀ m:Nat,List.foldl (fun x1 x2=>x1++x2) #[] (List.replicate m its.toArray)=(List.replicate m its).flatten.toArray:=fun m=>by
   have:=foldl_rep its m [];rw[List.nil_append] at this;exact this
  rw[f0]
  cases its with
  | nil=>simp
  | cons a r'=>rw[if_neg (by simp)]
 refine wpAny_binaryOp_repeat_ref (T:="list") (U:="int") (by decide) ⟨_,e,rfl⟩ (fun s'=>typeIs_int s' k t) noFill_list_mul F.fills_int_mul F.slot_int_rmul repeat_list F.slot_int_index.lookup
  (call_meets F.slot_int_rmul (typeIs_int s k t) F.entry_int_rmul (F.args_int_rmul_2 _ _) (int___rmul___int_list k t l its.toArray n)
   ⟨e,rfl,⟨_,e,rfl⟩,call_meets F.slot_list_mul ⟨_,e,rfl⟩ F.entry_list_mul (F.args_list_mul_2 _ _) (AutoListH.list___mul___list_int_3 l its.toArray n k t hfit hcap WT) ⟨e,?_⟩⟩)
 rw[hnew];exact⟨.ref _,_,I.aCz (t':=s.toks) (r.rep k.toNat) (by rw[len_rep,Nat.mul_comm];exact hz),rfl,q _ I.fresh⟩
end
section
variable{prog:Program}{w:World}{A:Around}{E:Value→Shared→Prop}{s:Shared}
set_option maxRecDepth 100000 in
end
section
variable{X:Cx}
end
end L2
namespace L2
open PySem PySem.Spec PyProof.Rows
theorem Vals.ints:∀ {ns:List Int} {us:List Value},Vals (ns.map V.int) us→IntsAre us ns
 | [],us,h=>by
  rw[List.map_nil] at h;cases h;exact IntsAre.nil
 | n::ns,us,h=>by
  rw[List.map_cons] at h
  cases h with
  | cons r t=>
   obtain⟨k,rfl⟩:=r;exact IntsAre.cons n k (Vals.ints t)
theorem Vals.aDI{a:Addr}{us:List Value}(r:Vals [V.ref a] us):us=[Value.ref a]:=by
 cases r with
 | cons r t=>
  cases t;cases r;rfl
section
variable{prog:Program}{w:World}{A:Around}{E:Value→Shared→Prop}{s:Shared}{l:Addr}{its:List Value}{ns:List Int}{Q:Value→Shared→Prop}
theorem YG(hh:A.handled=none)(hl:s.heap.IsList l its.toArray)(hi:IntsAre its ns)
  (h:∀ h' tk t',(∀ b o,s.heap.get? b=some o→h'.get? b=some o)→Q (.int ns.sum t') {s with heap:=h',toks:=tk}):wpAny (model prog w) A (call (.builtin "sum") [.ref l]) Q E s:=by
 obtain⟨xs,e⟩:=hi.allInts.items;have hn:numsOf (intItems xs).toList=ns:=by rw[←e];exact hi.numsOf
 rw[nums_intItems] at hn;rw[e] at hl;refine PySem.sum_intListG hh hl fun h' tk t' hk=>?_;have:=h h' tk t' hk;rw[preSum_eq,List.take_of_length_le (by simp),hn];exact this
end
section
variable{X:Cx}
def aDJ(K:W.Frag):List V→Hp→VK→Prop:=fun vs H Q=>∃ (a:Addr) (ns:List Int),vs=[V.ref a]∧cT K H a (ns.map V.int)∧Q (.int ns.sum) H
theorem XF(hc:X.calm=true):AR X (.builtin "sum") (aDJ X.K):=by
 intro pins s σ H vs us Q I r h;(refine aB h fun a ns bO hs q=>?_;subst bO);refine aC (I.list hs) fun its rv hl _=>?_;rw[Vals.aDI r];exact YG (I.ok.hd hc) hl.isList rv.ints fun h' tk t' hk=>⟨.int _,H,I.kept hk,⟨_,rfl⟩,q⟩
end
section
variable{X:Cx}
end
section
variable{X:Cx}
end
section
variable{X:Cx}
end
mutual
inductive Dp(K:W.Frag)(H:Hp):V→PyData→Prop
 | non:Dp K H .non .none
 | bl (b:Bool):Dp K H (.bl b) (.bool b)
 | int (i:Int):Dp K H (.int i) (.int i)
 | str (x:Str):Dp K H (.str x) (.str x)
 | lst {a:Addr} {xs:List V} {ds:List PyData}:cT K H a xs→EU K H xs ds→Dp K H (.ref a) (.list ds)
 | tup {a:Addr} {xs:List V} {ds:List PyData}:gF K H a xs→EU K H xs ds→Dp K H (.ref a) (.tuple ds)
inductive EU(K:W.Frag)(H:Hp):List V→List PyData→Prop
 | nil:EU K H [] []
 | cons {v:V} {vs:List V} {d:PyData} {ds:List PyData}:Dp K H v d→EU K H vs ds→EU K H (v::vs) (d::ds)
end
section
variable{X:Cx}{pins:List (Addr×Obj)}{σ:St}{H:Hp}{s:Shared}
mutual
theorem Dp.reads(I:Inv X pins σ H s):∀ (d:PyData) (v:V) (u:Value),Dp X.K H v d→RelV v u→∃ as,Reads s.heap u d as
 | .none,_,_,h,r=>by
  cases h;cases r;exact⟨_,Reads.none⟩
 | .bool b,_,_,h,r=>by
  cases h;cases r;exact⟨_,Reads.bool b⟩
 | .int i,_,_,h,r=>by
  cases h;obtain⟨t,rfl⟩:=r;exact⟨_,Reads.int i t⟩
 | .str x,_,_,h,r=>by
  cases h;obtain⟨t,rfl⟩:=r;exact⟨_,Reads.str x t⟩
 | .list ds,_,_,h,r=>by
  cases h with
  | lst hs ha=>
   cases r;(refine aC (I.list hs) fun its rv bO _=>?_;obtain⟨o,n,ho,hc,_,hd⟩:=bO);obtain⟨as,hr⟩:=Dp.readsAll I ds _ its ha rv;exact⟨_,Reads.list ho hc hd hr⟩
 | .tuple ds,_,_,h,r=>by
  cases h with
  | tup hs ha=>
   cases r;(refine aC (I.tuple hs) fun its rv cA _=>?_;obtain⟨o,ho,hc,n,hd⟩:=cA);obtain⟨as,hr⟩:=Dp.readsAll I ds _ its ha rv;exact⟨_,Reads.tuple ho hc hd hr⟩
 | .dict _,_,_,h,_=>by cases h
theorem Dp.readsAll(I:Inv X pins σ H s):∀ (ds:List PyData) (vs:List V) (us:List Value),EU X.K H vs ds→Vals vs us→∃ as,ReadsAll s.heap us ds as
 | [],_,_,h,r=>by
  cases h;cases r;exact⟨_,ReadsAll.nil⟩
 | d::ds,_,_,h,r=>by
  cases h with
  | cons h1 h2=>
   cases r with
   | cons r1 r2=>
    obtain⟨as,q1⟩:=Dp.reads I d _ _ h1 r1;obtain⟨bs,q2⟩:=Dp.readsAll I ds _ _ h2 r2;exact⟨_,ReadsAll.cons q1 q2⟩
end
end
section
variable{X:Cx}
def aDL(K:W.Frag):R2:=fun x y H Q=>∃ d e,Dp K H x d∧Dp K H y e∧SeqAt.shaped d=true∧SeqAt.shaped e=true∧Q (.bl (!PyData.eqv d e)) H
theorem VW(hu:X.A.units+64<cLine):AQ X (compareOp .NotEq) (aDL X.K):=by
 intro pins s σ H x y v u Q I rx ry h;refine aT h fun d e hd he sd se q=>?_;obtain⟨as,r1⟩:=Dp.reads I d x v hd rx;obtain⟨bs,r2⟩:=Dp.reads I e y u he ry;exact SeqAt.compareNe_shaped r1 r2 sd se hu ⟨.bl _,H,I,rfl,q⟩
end
end L2
namespace L2
open PySem PySem.Spec PyProof.Rows
abbrev XW(h:Heap)(c:Addr)(v:Option Value):Prop:=h.IsCell c v
def aDG(scope sc:Scope):Scope:=
 {scope with names:=scope.names.map fun (n,k)=>if (k== .free&&sc.kind== .function&&sc.names.lookup n==some .cell) then (n,.cell) else (n,k)}
def d9(cells:List (Str×Addr)):List (Str×NameKind)→List (Str×Addr)→List (Str×Addr)
 | [],acc=>acc
 | (n,k)::r,acc=>if k== .free then d9 cells r ((n,(cells.lookup n).getD 0)::acc) else d9 cells r acc
theorem xM(env:Env)(f:Str×NameKind→List (Str×Addr)→Sem (ForInStep (List (Str×Addr))))
  (hf:∀ n k c,f (n,k) c=if k== .free then (do let a ←cellOf env n;pure (.yield ((n,a)::c))) else pure (.yield c)):
  ∀ (names:List (Str×NameKind)) (acc:List (Str×Addr)),(∀ y∈names,y.2= .free→∃ c,env.cells.lookup y.1=some c)→forIn names acc f=pure (d9 env.cells names acc)
 | [],acc,_=>by rw[List.forIn_nil];rfl
 | (n,k)::r,acc,h=>by
  rw[List.forIn_cons,hf];have ih:=fun acc=>xM env f hf r acc fun y hy=>h y (aFk _ hy);unfold d9;by_cases hk:(k==NameKind.free)=true
  ·rw[if_pos hk,if_pos hk];obtain⟨c,hc⟩:=h (n,k) aFh (by simpa using hk);have e:cellOf env n=pure c:=by unfold cellOf;rw[hc]
   rw[e];have e2:(env.cells.lookup n).getD 0=c:=by rw[hc];rfl
   rw[e2];exact ih _
  ·rw[if_neg hk,if_neg hk];exact ih _
theorem P4{scope:Scope}{env:Env}(h:∀ y∈scope.names,y.2= .free→∃ c,env.cells.lookup y.1=some c):closureFor scope env=pure (d9 env.cells scope.names []):=by
 simp only[closureFor];rw[xM env _ (fun n k c=>rfl) scope.names [] h];rfl
theorem mem_lookup{α:Type}:∀ {l:List (Str×α)} {n:Str} {c:α},(n,c)∈l→∃ c',l.lookup n=some c'
 | (k,v)::r,n,c,h=>by
  rw[aFD]
  cases hb:n==k with
  | true=>exact⟨_,rfl⟩
  | false=>
   rcases aEZ.mp h with e | h
   ·cases e;simp at hb
   ·exact mem_lookup h
theorem nL{cells:List (Str×Addr)}:∀ {names:List (Str×NameKind)} {acc:List (Str×Addr)} {n:Str} {c:Addr},(n,c)∈d9 cells names acc→(n,c)∈acc∨((n,.free)∈names∧c=(cells.lookup n).getD 0)
 | [],_,_,_,h=> .inl h
 | (m,k)::r,acc,n,c,h=>by
  unfold d9 at h
  split at h
  ·rename_i hk;have hk:k= .free:=by simpa using hk
   rcases nL h with h | ⟨h1,h2⟩
   ·rcases aEZ.mp h with e | h
    ·cases e;exact .inr ⟨hk ▸ aFh,rfl⟩
    ·exact .inl h
   ·exact .inr ⟨aFk _ h1,h2⟩
  ·rcases nL h with h | ⟨h1,h2⟩
   ·exact .inl h
   ·exact .inr ⟨aFk _ h1,h2⟩
theorem rZ{cells:List (Str×Addr)}:∀ {names:List (Str×NameKind)} {acc:List (Str×Addr)} {p:Str×Addr},p∈acc→p∈d9 cells names acc
 | [],_,_,h=>h
 | (m,k)::r,acc,p,h=>by
  unfold d9
  split
  ·exact rZ (aFk _ h)
  ·exact rZ h
theorem rY{cells:List (Str×Addr)}:∀ {names:List (Str×NameKind)} {acc:List (Str×Addr)} {n:Str},(n,.free)∈names→(n,(cells.lookup n).getD 0)∈d9 cells names acc
 | (m,k)::r,acc,n,h=>by
  unfold d9;rcases aEZ.mp h with e | h
  ·cases e;exact rZ aFh
  ·split
   ·exact rY h
   ·exact rY h
theorem o9:∀ {names:List (Str×NameKind)} {h:Heap} {acc:List (Str×Addr)} {x:Str} {c:Addr},(x,c)∈cellsFrom h.objs.size names acc →
  (x,c)∈acc∨((x,.cell)∈names∧h.objs.size≤c∧XW (pushCells h names) c none)
 | [],_,_,_,_,h=> .inl h
 | (n,k)::r,h,acc,x,c,hm=>by
  unfold cellsFrom at hm;unfold pushCells
  split at hm
  ·rename_i hk;rw[if_pos hk];have hk:k= .cell:=by simpa using hk
   rw[←Heap.size_push h {cls:= .type "cell",data:= .cell none}] at hm;rcases o9 hm with hm | ⟨h1,h2,h3⟩
   ·rcases aEZ.mp hm with e | hm
    ·cases e;exact .inr ⟨hk ▸ aFh,aFi _,_,pushCells_keeps r _ _ _ (Heap.get?_push_size _ rfl),rfl⟩
    ·exact .inl hm
   ·rw[Heap.size_push] at h2;exact .inr ⟨aFk _ h1,Nat.le_of_succ_le h2,h3⟩
  ·rename_i hk;rw[if_neg hk];rcases o9 hm with hm | ⟨h1,h2,h3⟩
   ·exact .inl hm
   ·exact .inr ⟨aFk _ h1,h2,h3⟩
theorem sZ:∀ {names:List (Str×NameKind)} {n:Nat} {acc:List (Str×Addr)} {p:Str×Addr},p∈acc→p∈cellsFrom n names acc
 | [],_,_,_,h=>h
 | (m,k)::r,n,acc,p,h=>by
  unfold cellsFrom
  split
  ·exact sZ (aFk _ h)
  ·exact sZ h
theorem zF:∀ {names:List (Str×NameKind)} {n:Nat} {acc:List (Str×Addr)} {x:Str},(x,.cell)∈names→∃ c,(x,c)∈cellsFrom n names acc
 | (m,k)::r,n,acc,x,h=>by
  unfold cellsFrom;rcases aEZ.mp h with e | h
  ·cases e;exact⟨n,sZ aFh⟩
  ·split
   ·exact zF h
   ·exact zF h
theorem y9:∀ {names:List (Str×NameKind)} {h:Heap} {acc:List (Str×Addr)} {x y:Str} {c:Addr},(∀ p∈acc,p.2<h.objs.size)→(∀ x y c,(x,c)∈acc→(y,c)∈acc→x=y) →
  (x,c)∈cellsFrom h.objs.size names acc→(y,c)∈cellsFrom h.objs.size names acc→x=y
 | [],_,_,_,_,_,_,hi,h1,h2=>hi _ _ _ h1 h2
 | (n,k)::r,h,acc,x,y,c,hl,hi,h1,h2=>by
  unfold cellsFrom at h1 h2
  split at h1
  ·rename_i hk;rw[if_pos hk] at h2;rw[←Heap.size_push h {cls:= .type "cell",data:= .cell none}] at h1 h2;refine y9 (h:=h.push _) (fun p hp=>?_) (fun x y c a b=>?_) h1 h2
   ·rw[Heap.size_push];rcases aEZ.mp hp with rfl | hp
    ·exact Nat.lt_succ_self _
    ·exact Nat.lt_succ_of_lt (hl p hp)
   ·rcases aEZ.mp a with e | a <;> rcases aEZ.mp b with e' | b
    ·cases e;cases e';rfl
    ·cases e;exact absurd (hl _ b) (Nat.lt_irrefl _)
    ·cases e';exact absurd (hl _ a) (Nat.lt_irrefl _)
    ·exact hi _ _ _ a b
  ·rename_i hk;rw[if_neg hk] at h2;exact y9 hl hi h1 h2
theorem MA{M:Model}{A:Around}{E:Value→Shared→Prop}{s:Shared}{scope:Scope}{globals:Addr}{closure:List (Str×Addr)}{qual:Str}{func:Option Addr}{code:Value}{around:Env}{builtins:Addr}{Q:Env→Shared→Prop}
  (h:Q (newEnv scope s.heap.objs.size globals (cellsFrom (s.heap.objs.size+1) scope.names closure) qual func code (some around) builtins)
   {s with heap:=pushCells (s.heap.push {cls:= .type "dict",data:= .dict #[]}) scope.names}):
  wpAny M A (newFunctionEnv scope globals closure [] qual func code (some around) builtins) Q E s:=by
 simp only[newFunctionEnv,Option.isSome_some,if_true];refine wpAny_bind (wpAny_alloc ?_);refine wpAny_bind (wpAny_layCells _ (fun n k c=>rfl) scope.names closure _ _ ?_);rw[show ({s with heap:=s.heap.push {cls:= .type "dict",data:= .dict #[]}}:Shared).heap.objs.size=s.heap.objs.size+1 from Heap.size_push ..];rw[List.forIn_nil];exact wpAny_bind (wpAny_pure (wpAny_pure h))
theorem rR{sc:Scope}:∀ {names:List (Str×NameKind)} {x:Str} {k:NameKind},
  (names.map fun (n,k)=>if (k==NameKind.free&&sc.kind== .function&&sc.names.lookup n==some .cell) then (n,NameKind.cell) else (n,k)).lookup x=some k →
  ∃ k',names.lookup x=some k'∧(k=k'∨(k'= .free∧k= .cell))
 | [],_,_,h=>by simp at h
 | (n,k₀)::r,x,k,h=>by
  have ih:=@rR sc r x k;have h':List.lookup x ((if (k₀==NameKind.free&&sc.kind== .function&&sc.names.lookup n==some .cell)=true then (n,NameKind.cell) else (n,k₀))::(r.map _))=some k:=h
  cases hx:x==n with
  | true=>
   simp only[aFD,hx];by_cases hc:(k₀==NameKind.free&&sc.kind== .function&&sc.names.lookup n==some .cell)=true
   ·rw[if_pos hc] at h';simp only[aFD,hx] at h';cases h';simp only[aFg,beq_iff_eq] at hc;exact⟨k₀,rfl,.inr ⟨hc.1.1,rfl⟩⟩
   ·rw[if_neg hc] at h';simp only[aFD,hx] at h';cases h';exact⟨_,rfl,.inl rfl⟩
  | false=>
   simp only[aFD,hx];by_cases hc:(k₀==NameKind.free&&sc.kind== .function&&sc.names.lookup n==some .cell)=true
   ·rw[if_pos hc] at h';simp only[aFD,hx] at h';exact ih h'
   ·rw[if_neg hc] at h';simp only[aFD,hx] at h';exact ih h'
structure NM(N:List Str)(sc scope:Scope)(own:List (Str×Nat)):Prop where
 kind:scope.kind= .function
 uniq:∀ y∈scope.names,scope.names.lookup y.1=some y.2
 ix:∀ p∈own,N[p.2]?=some p.1
 free:∀ y∈scope.names,y.2= .free→sc.names.lookup y.1=some .cell∨sc.names.lookup y.1=some .free
 own:∀ y∈scope.names,y.2= .local∨y.2= .cell→y.1∈own.map (·.1)∨y.1∉N
def wipe(σ:St):List Nat→St
 | []=>σ
 | v::vs=>(wipe σ vs).set v none
theorem qF(σ:St):∀ vs:List Nat,(wipe σ vs).length=σ.length
 | []=>rfl
 | v::vs=>by unfold wipe;rw[List.length_set,qF σ vs]
theorem yB{σ:St}{i:Nat}{x:V}:∀ {vs:List Nat},(wipe σ vs)[i]?=some (some x)→σ[i]?=some (some x)∧i∉vs
 | [],h=>⟨h,by simp⟩
 | v::vs,h=>by
  unfold wipe at h;by_cases hi:v=i
  ·subst hi;by_cases hv:v<(wipe σ vs).length
   ·rw[List.getElem?_set_self hv] at h;cases h
   ·rw[List.getElem?_eq_none (by simpa using hv)] at h;cases h
  ·rw[List.getElem?_set_ne hi] at h;obtain⟨h1,h2⟩:=yB h;exact⟨h1,by simp only[aEZ,not_or];exact⟨fun e=>hi e.symm,h2⟩⟩
abbrev Cx.blk(X:Cx)(s:Shared)(H:Hp)(scope:Scope)(cenv:Env)(fp:List Addr):Cx:={X with s_0:=s,H_0:=H,env:=cenv,outer:=X.stack,ex:=fp,fn:=fun x=>scope.names.lookup x==some .cell,pn:=[],xe:=fun _ _=>False}
section
variable{X:Cx}{pins:List (Addr×Obj)}{σ:St}{H:Hp}{s:Shared}
theorem MW{scope:Scope}{own:List (Str×Nat)}{fp:List Addr}(I:Inv X pins σ H s)(ok:NM X.N X.env.scope scope own)(hN:X.N.Nodup)(hfp:∀ b∈fp,FX X pins H b∧b<s.heap.objs.size):
  Inv (X.blk s H scope (compEnvC scope (cellsFrom (s.heap.objs.size+1) scope.names (d9 X.env.cells scope.names [])) s.heap.objs.size X.env) fp) [] (wipe σ (own.map (·.2))) H {s with heap:=pushCells (s.heap.push {cls:= .type "dict",data:= .dict #[]}) scope.names}:=by
 have hfree:∀ y∈scope.names,y.2= .free→∃ c,X.env.cells.lookup y.1=some c:=fun y hy e=>by
  rcases ok.free y hy e with k | k
  ·exact I.ok.has _ (.inl k)
  ·exact I.ok.has _ (.inr k)
 generalize MN:compEnvC scope (cellsFrom (s.heap.objs.size+1) scope.names (d9 X.env.cells scope.names [])) s.heap.objs.size X.env=cenv;have kp:∀ b o,s.heap.get? b=some o→(pushCells (s.heap.push {cls:= .type "dict",data:= .dict #[]}) scope.names).get? b=some o:=fun b o e=>pushCells_keeps _ _ _ _ (Heap.get?_push_of_some _ e);have hL:cenv.locals=s.heap.objs.size:=by rw[←MN];rfl
 have hcl:cenv.cells=cellsFrom (s.heap.objs.size+1) scope.names (d9 X.env.cells scope.names []):=by rw[←MN];rfl
 have hsc:cenv.scope=aDG scope X.env.scope:=by rw[←MN];rfl
 rw[←Heap.size_push s.heap {cls:= .type "dict",data:= .dict #[]}] at hcl;have cm:∀ {y c},(y,c)∈d9 X.env.cells scope.names []→X.env.cells.lookup y=some c∧c<s.heap.objs.size:=fun {y c} hm=>by
  rcases nL hm with hm | ⟨h1,rfl⟩
  ·cases hm
  ·obtain⟨c,hc⟩:=hfree _ h1 rfl;rw[hc];obtain⟨w,z⟩:=I.cell _ _ hc;exact⟨rfl,z.lt⟩
 have mem:∀ {y c},cenv.cells.lookup y=some c→(X.env.cells.lookup y=some c∧c<s.heap.objs.size)∨(s.heap.objs.size+1≤c∧XW (pushCells (s.heap.push {cls:= .type "dict",data:= .dict #[]}) scope.names) c none):=fun {y c} e=>by
  rw[hcl] at e;rcases o9 (PySem.mem_of_lookup e) with hm | ⟨_,h2,h3⟩
  ·exact .inl (cm hm)
  ·rw[Heap.size_push] at h2;exact .inr ⟨h2,h3⟩
 have look:∀ {y},scope.names.lookup y=some .free→∃ c,cenv.cells.lookup y=some c∧X.env.cells.lookup y=some c:=fun {y} hl=>by
  have hy:(y,NameKind.free)∈scope.names:=PySem.mem_of_lookup hl;obtain⟨c',e'⟩:=mem_lookup (sZ (names:=scope.names) (n:=(s.heap.push {cls:= .type "dict",data:= .dict #[]}).objs.size) (rY (cells:=X.env.cells) (acc:=[]) hy));rw[←hcl] at e';refine⟨c',e',?_⟩;rw[hcl] at e';rcases o9 (PySem.mem_of_lookup e') with hm | ⟨h1,_,_⟩
  ·exact(cm hm).1
  ·have:=ok.uniq _ h1;rw[hl] at this;cases this
 have okB:(X.blk s H scope cenv fp).Ok:=by
  refine⟨I.ok.mod,by show cenv.scope.kind=_;rw[hsc];exact ok.kind,by show cenv.globals=_;rw[←MN];exact I.ok.glob,by show cenv.builtins=_;rw[←MN];exact I.ok.blt,by show s.heap.objs.size≤cenv.locals;rw[hL];exact aFi _,
   fun y z c e1 e2=>?_,fun y hy=>?_,fun y c z e=>?_,I.ok.hd,I.ok.frames,.inl rfl,fun b hb=>⟨?_,fun y c e z=>?_⟩,I.bs,aFt I.ok.XJ I.sz,fun b o e hb=>?_,fun b hb z=>?_,I.stack,I.BA⟩
  ·have e1:cenv.cells.lookup y=some c:=e1;have e2:cenv.cells.lookup z=some c:=e2;rw[hcl] at e1 e2;refine y9 (fun p hp=>?_) (fun y z c a b=>I.ok.inj y z c (cm a).1 (cm b).1) (PySem.mem_of_lookup e1) (PySem.mem_of_lookup e2);rw[Heap.size_push];exact Nat.lt_succ_of_lt (cm (y:=p.1) (c:=p.2) hp).2
  ·show ∃ c,cenv.cells.lookup y=some c;have key:∀ k,cenv.kindOf y=some k→(k= .cell∨k= .free)→∃ c,cenv.cells.lookup y=some c:=fun k hk hk'=>by
    unfold Env.kindOf at hk;rw[hsc] at hk;refine aA (rR hk) fun k' e r=>?_;have:k'= .cell∨k'= .free:=by
     rcases r with rfl | ⟨rfl,_⟩
     ·exact hk'
     ·exact .inr rfl
    rcases this with rfl | rfl
    ·obtain⟨c,hm⟩:=zF (n:=(s.heap.push {cls:= .type "dict",data:= .dict #[]}).objs.size) (acc:=d9 X.env.cells scope.names []) (PySem.mem_of_lookup e);obtain⟨c',e'⟩:=mem_lookup hm;exact⟨c',by rw[hcl];exact e'⟩
    ·refine aA (look e) fun c h1 _=>?_;exact⟨c,h1⟩
   rcases hy with hy | hy
   ·exact key _ hy (.inl rfl)
   ·exact key _ hy (.inr rfl)
  ·have z:(scope.names.lookup y==some NameKind.cell)=true:=z;have z:scope.names.lookup y=some .cell:=by simpa using z
   have e:cenv.cells.lookup y=some c:=e;rw[hcl] at e;rcases o9 (PySem.mem_of_lookup e) with hm | ⟨_,h2,_⟩
   ·rcases nL hm with hm | ⟨h1,_⟩
    ·cases hm
    ·have q:=ok.uniq _ h1;rw[z] at q;cases q
   ·rw[Heap.size_push] at h2;exact Nat.le_of_succ_le h2
  ·show b≠cenv.locals;rw[hL];exact Nat.ne_of_lt (hfp b hb).2
  ·have e:cenv.cells.lookup y=some c:=e;rcases mem e with ⟨h1,_⟩ | ⟨h1,_⟩
   ·exact(hfp b hb).1.2.2.2.2.1 y c h1 z
   ·have h2:s.heap.objs.size+1≤b:=by rw[←z];exact h1
    exact absurd (aFs (hfp b hb).2 (Nat.le_of_succ_le h2)) (Nat.lt_irrefl _)
  ·rcases (hfp b hb).1.2.2.2.1 with z | z
   ·exact I.ok.V4 b o e z
   ·exact absurd (aFs (Heap.lt_size e) (aFt I.ok.XJ z)) (Nat.lt_irrefl _)
  ·rcases aEZ.mp (I.IC b z) with z | z
   ·exact(hfp b hb).1.2.1 z
   ·exact(hfp b hb).1.2.2.1 z
 refine⟨okB,rfl,I.bare,Un.kept kp,⟨fun _=>none,?_,fun i y av e1 e2 e3=>?_⟩,fun y c e=>?_,?_,fun y c e=>?_,fun p hp=>?_,I.hok.kept kp,by rw[qF];exact I.len⟩
 ·show Heap.Ns _ cenv.locals _;rw[hL];exact Heap.Ns.keeps (Heap.Ns.new ..) fun b o e=>pushCells_keeps _ _ _ _ e
 ·obtain⟨e2,hne⟩:=yB e2;have hfr:scope.names.lookup y=some .free∧(cenv.kindOf y=some .cell∨cenv.kindOf y=some .free):=by
   have key:∀ k,cenv.scope.names.lookup y=some k→k= .local∨k= .cell∨k= .free→scope.names.lookup y=some .free∧(cenv.kindOf y=some .cell∨cenv.kindOf y=some .free):=fun k hk hk'=>by
    have hk0:=hk;rw[hsc] at hk;refine aA (rR hk) fun k' e r=>?_;have no:¬(k'= .local∨k'= .cell):=fun hh=>by
     rcases ok.own _ (PySem.mem_of_lookup e) hh with e' | e'
     ·refine aA (aFz.mp e') fun p hp hpy=>?_;have e3:=ok.ix p hp;have:p.1=y:=hpy;rw[this] at e3;exact hne (aFz.mpr ⟨p,hp,DR hN e3 e1⟩)
     ·exact e' (aFO e1)
    rcases r with rfl | ⟨rfl,rfl⟩
    ·rcases hk' with rfl | rfl | rfl
     ·exact absurd (.inl rfl) no
     ·exact absurd (.inr rfl) no
     ·exact⟨e,.inr hk0⟩
    ·exact⟨e,.inl hk0⟩
   have e3:Vis cenv.scope y:=e3;rcases e3 with e3 | e3 | e3
   ·exact key _ e3 (.inl rfl)
   ·exact key _ e3 (.inr (.inl rfl))
   ·exact key _ e3 (.inr (.inr rfl))
  refine aA I.loc fun m hn hl=>?_;have aEg:Vis X.env.scope y:=(ok.free _ (PySem.mem_of_lookup hfr.1) rfl).elim (fun k=> .inr (.inl k)) (fun k=> .inr (.inr k));refine aA (hl i y av e1 e2 aEg) fun w r q=>?_;refine⟨w,r,.inr ⟨hfr.2,?_⟩⟩;refine aA (look hfr.1) fun c h1 h2=>?_;rcases q with ⟨k,_⟩ | ⟨_,c',e',z⟩
  ·have k:X.env.scope.names.lookup y=some .local:=k;rcases ok.free _ (PySem.mem_of_lookup hfr.1) rfl with k' | k' <;> rw[show X.env.scope.names.lookup y=_ from k'] at k <;> cases k
  ·rw[h2] at e';cases e';exact⟨c,h1,z.keeps kp⟩
 ·have e:cenv.cells.lookup y=some c:=e;rcases mem e with ⟨h1,_⟩ | ⟨_,z⟩
  ·obtain⟨w,z⟩:=I.cell y c h1;exact⟨w,z.keeps kp⟩
  ·exact⟨_,z⟩
 ·show H cenv.locals=none;rw[hL];exact I.hok.fresh (aFi _)
 ·have e:cenv.cells.lookup y=some c:=e;rcases mem e with ⟨h1,_⟩ | ⟨h1,_⟩
  ·exact I.p8 y c h1
  ·exact I.hok.fresh (Nat.le_of_succ_le h1)
 ·exact absurd (show p∈([]:List (Addr×Obj))++[] from hp) (by simp)
theorem aBU{E:Value→Shared→Prop}{D:Addr}{xs:List V}{y:V}{v:Value}{Q:Value→Shared→Prop}(I:Inv X pins σ H s)(hD:H D=some (.lst xs))(hz:xs.length<sizeLine)(r:RelV y v)
  (h:∀ s',Inv X pins σ (upd H D (.lst (xs++[y]))) s'→Q .none s'):wpAny (model X.prog X.w) X.A (call (.builtin "list.append") [.ref D,v]) Q E s:=by
 (refine aD (I.hok D _ hD) fun hz' bO=>?_;refine aH bO fun its n ri e=>?_);have hl:=ri.length;refine append_at (hsz:=by rw[aFo];lia) e fun h' sb ho'=>?_;refine h {s with heap:=h'} (I.write (t':=s.toks) (by rw[hD];trivial) (.inl rfl) (fun b u hb q=>(sb.2 b hb).trans q) ⟨_,ho'⟩ ⟨by rw[aFb];exact hz,its++[v],n+1,ri.append (.cons r .nil),?_⟩);rw[ho'];simp
def PTs(X:Cx)(ifs:List Expr)(t:TT):Prop:=
 ∀ (pins:List (Addr×Obj)) (s:Shared) (σ:St) (H:Hp) (Q:Bool→Hp→Prop),Inv X pins σ H s→t σ H Q →
  wpAny (model X.prog X.w) X.A (forIn ifs true fun c r=>if r=true then do let ok ←isTrue c X.env (eval c X.env);pure (ForInStep.yield ok) else pure (ForInStep.yield r)) (TP X pins σ Q) X.xe s
def aAB:TT:=fun _ H Q=>Q true H
theorem kH:PTs X [] aAB:=fun _ _ _ H _ I h=>wpAny_tests_nil ⟨H,I,h⟩
end
theorem SM{α:Type}{t:Sem α}{Q Q':α→Shared→Prop}{M:Model}{A:Around}{E:Value→Shared→Prop}{s:Shared}(h:wpAny M A t Q (fun _ _=>False) s)(hQ:∀ a s,Q a s→Q' a s):wpAny M A t Q' E s:=wpAny_mono h hQ fun _ _ z=>False.elim z
theorem JR{prog:Program}{w:World}{A:Around}{R:Result→Shared→Prop}{s:Shared}{elt target iter:Expr}{ifs:List Expr}{scope:Scope}{pos:Pos}{it acc:Value}{env:Env}(I:Nat→Shared→Prop)
  (turn:∀ n s,I n s→wpAny (model prog w) A (pyNext it) (fun r s₁=>match r with
   | none=>R (.ok .next) s₁
   | some v=>wpAny (model prog w) A (letOwnedTupleGo target it v) (fun _ s₁'=>wpAny (model prog w) A (assign target env v) (fun _ s₂=>
     wpAny (model prog w) A (forIn ifs true fun c r=>if r=true then do let ok ←isTrue c env (eval c env);pure (ForInStep.yield ok) else pure (ForInStep.yield r)) (fun ok s₃=>
      if ok=true then wpAny (model prog w) A (eval elt env) (fun x s₄=>
       wpAny (model prog w) A (call (.builtin "list.append") [acc,x]) (fun _ s₅=>∃ m,m<n∧I m s₅) (notedBy (model prog w) A env fun e s'=>R (.error e) s') s₄) (notedBy (model prog w) A env fun e s'=>R (.error e) s') s₃
      else ∃ m,m<n∧I m s₃) (notedBy (model prog w) A env fun e s'=>R (.error e) s') s₂) (notedBy (model prog w) A env fun e s'=>R (.error e) s') s₁') (notedBy (model prog w) A env fun e s'=>R (.error e) s') s₁) (notedBy (model prog w) A env fun e s'=>R (.error e) s') s)
  (n:Nat) (h:I n s):
  codeAny (model prog w) A (.compLoop (.ListComp elt [⟨target,iter,ifs,0⟩] scope pos) 0 it acc env) R s:=by
 refine codeAny_loop rfl I (fun n s hI=>?_) n h;show wpAny _ A ((compTurn (.ListComp elt [⟨target,iter,ifs,0⟩] scope pos) 0 it acc env).onRaise (fun x=>do noteFrame x env;theTreesLotGoes x)) _ _ s;refine wpAny_noted ?_;rw[compTurn_list];refine wpAny_bind (wpAny_standAt (wpAny_bind (wpAny_mono (turn n s hI) (fun r s₁ h₁=>?_) fun _ _ h'=>h')))
 cases r with
 | none=>exact wpAny_pure h₁
 | some v=>
  refine wpAny_bind (wpAny_mono h₁ (fun _ s₁' h₁'=>?_) fun _ _ h'=>h');refine wpAny_bind (wpAny_mono h₁' (fun _ s₂ h₂=>wpAny_bind (wpAny_mono h₂ (fun ok s₃ h₃=>?_) fun _ _ h'=>h')) fun _ _ h'=>h')
  cases ok with
  | false=>exact wpAny_pure ⟨rfl,h₃⟩
  | true=>
   exact wpAny_bind (wpAny_bind (wpAny_mono h₃ (fun x s₄ h₄=>wpAny_bind (wpAny_mono h₄ (fun _ s₅ h₅=>wpAny_pure (wpAny_pure ⟨rfl,h₅⟩)) fun _ _ h'=>h')) fun _ _ h'=>h'))
section
variable{X:Cx}
def tLc(wi:TI)(g:TG)(tt:TT)(te:TE)(vs:List Nat):TE:=fun σ H Q=>wi σ H fun J H1=>∀ D,H1 D=none→∃ W:Nat→Nat→Hp→Prop,(∃ m,W 0 m (upd H1 D (.lst [])))∧∀ i m H,W i m H →
 (J.stop i H∧Q (.ref D) H)∨(J.go i H∧∃ Nx:Hp→Prop,(∀ H',Nx H'→∃ m',m'<m∧W (i+1) m' H')∧∀ x H',J.UL i H x H'→g x (wipe σ vs) H' fun σ2 H2=>wipe σ2 vs=wipe σ vs∧tt σ2 H2 fun b H3=>
  if b=true then te σ2 H3 fun y H4=>∃ acc,H4 D=some (.lst acc)∧acc.length<sizeLine∧Nx (upd H4 D (.lst (acc++[y]))) else Nx H3)
theorem RG{pins:List (Addr×Obj)}{s:Shared}{σ:St}{H:Hp}{Q:VK}{elt tg iter:Expr}{ifs:List Expr}{scope:Scope}{own:List (Str×Nat)}{pos pos':Pos}{wi:TI}{g:TG}{tt:TT}{te:TE}{use:Option (Value→Sem Unit)}{Qf:Value→Shared→Prop}
  (hc:X.calm=true) (hN:X.N.Nodup) (I:Inv X pins σ H s) (hi:PI X tg iter wi) (ok:NM X.N X.env.scope scope own)
  (hg:∀ (s:Shared) (H:Hp) (C:Addr) (cl:List (Str×Addr)) (fp:List Addr),PG (X.blk s H scope (compEnvC scope cl C X.env) fp) tg g) (ht:∀ (s:Shared) (H:Hp) (C:Addr) (cl:List (Str×Addr)) (fp:List Addr),PTs (X.blk s H scope (compEnvC scope cl C X.env) fp) ifs tt)
  (he:∀ (s:Shared) (H:Hp) (C:Addr) (cl:List (Str×Addr)) (fp:List Addr),PE (X.blk s H scope (compEnvC scope cl C X.env) fp) elt te) (hs:∀ x,foldedSetIterable iter X.env x=pure x)
  (h:tLc wi g tt te (own.map (·.2)) σ H Q)
  (hRR:∀ D C s' m H',Inv X pins σ H' s'→Q (.ref D) H'→s'.heap.Ns C m→FX X pins H' C→compPost (model X.prog X.w) X.A X.xe use Qf (.ref D) C (.ok .next) s'):
  wpAny (model X.prog X.w) X.A (comprehension (.ListComp elt [⟨tg,iter,ifs,0⟩] scope pos) scope X.env pos' (newList []) false (eval iter X.env) use) Qf X.xe s:=by
 have hfree:∀ y∈scope.names,y.2= .free→∃ c,X.env.cells.lookup y.1=some c:=fun y hy e=>by
  rcases ok.free y hy e with k | k
  ·exact I.ok.has _ (.inl k)
  ·exact I.ok.has _ (.inr k)
 refine wpAny_comprehension_free (use:=use) rfl hs (P4 hfree) ok.kind (fun y hy e=>by rw[ok.uniq y hy,e])
  (eR (hi pins s σ H _ I h) fun xv s1 hx=>eR hx fun itv s2 h2=>?_)
 (refine aE h2 fun it fp tn bO=>?_;refine aI bO fun J H2 e I2 T st2 f2 q=>?_);subst e;refine wpAny_newObj_type (MA ?_) (by show 0≤sizeLine;decide);generalize hD:s2.heap.objs.size=D;have hDn:H2 D=none:=I2.hok.fresh (Nat.le_of_eq hD);(refine aA (q D hDn) fun W cA turn=>?_;obtain⟨m0,w0⟩:=cA);generalize hs3:({s2 with heap:=s2.heap.push {cls:= .type "list",data:= .seq ([]:List Value).toArray}}:Shared)=s3;have I3:Inv X pins σ (upd H2 D (.lst [])) s3:=by
  rw[←hs3];refine I2.laid (t':=s2.toks) (fun b o e=>Heap.get?_push_of_some _ e) (Nat.le_of_eq hD) ⟨aFx _,[],0,.nil,?_⟩;rw[←hD];exact Heap.get?_push_size _ rfl
 have h3:s3.heap=s2.heap.push {cls:= .type "list",data:= .seq ([]:List Value).toArray}:=by rw[←hs3]
 have sz:∀ b∈fp,b<s2.heap.objs.size:=fun b hb=>by
  refine aA (T.obj _ _ st2 b hb) fun o e _=>?_;exact Heap.lt_size e
 have f3:∀ b∈fp,FX X pins (upd H2 D (.lst [])) b∧b<s3.heap.objs.size:=fun b hb=>by
  have hlt:=sz b hb;refine⟨⟨?_,(f2 b hb).2⟩,by rw[h3,Heap.size_push];exact Nat.lt_succ_of_lt hlt⟩;rw[bF (by rw[←hD];exact Nat.ne_of_lt hlt)];exact(f2 b hb).1
 have st3:tn 0 s3.heap:=T.keep _ _ _ st2 fun b _ o e=>by rw[h3];exact Heap.get?_push_of_some _ e
 have I4:=MW I3 ok hN f3;have pg:=hg s3 (upd H2 D (.lst [])) s3.heap.objs.size (cellsFrom (s3.heap.objs.size+1) scope.names (d9 X.env.cells scope.names [])) fp;have pt:=ht s3 (upd H2 D (.lst [])) s3.heap.objs.size (cellsFrom (s3.heap.objs.size+1) scope.names (d9 X.env.cells scope.names [])) fp;have pe:=he s3 (upd H2 D (.lst [])) s3.heap.objs.size (cellsFrom (s3.heap.objs.size+1) scope.names (d9 X.env.cells scope.names [])) fp;show codeAny _ _ (.compStart (.ListComp elt [⟨tg,iter,ifs,0⟩] scope pos) 0 (.ref it) (.ref D) (compEnvC scope (cellsFrom (s3.heap.objs.size+1) scope.names (d9 X.env.cells scope.names [])) s3.heap.objs.size X.env)) (compPost (model X.prog X.w) X.A X.xe use Qf (.ref D) s3.heap.objs.size) {s3 with heap:=pushCells (s3.heap.push {cls:= .type "dict",data:= .dict #[]}) scope.names};have V6:∀ b∈fp,(upd H2 D (.lst [])) b=none:=fun b hb=>(f3 b hb).1.1;generalize hce:compEnvC scope (cellsFrom (s3.heap.objs.size+1) scope.names (d9 X.env.cells scope.names [])) s3.heap.objs.size X.env=ce at I4 pg pt pe ⊢;have cL:ce.locals=s3.heap.objs.size:=by subst hce;rfl
 generalize hH3:upd H2 D (.lst [])=H3 at I3 I4 pg pt pe w0 V6 f3;generalize hs4:({s3 with heap:=pushCells (s3.heap.push {cls:= .type "dict",data:= .dict #[]}) scope.names}:Shared)=s4 at I4 ⊢;have st4:tn 0 s4.heap:=T.keep _ _ _ st3 fun b _ o e=>by rw[←hs4];exact pushCells_keeps _ _ _ _ (Heap.get?_push_of_some _ e)
 have stat:∀ {σ':St} {H':Hp} {s':Shared},Inv (X.blk s3 H3 scope ce fp) [] σ' H' s'→(∀ b∈fp,H' b=none)→∀ b∈fp,FX (X.blk s3 H3 scope ce fp) [] H' b:=fun {σ' H' s'} I' hn b hb=>
  ⟨hn b hb,(I'.ok.exf b hb).1,I'.ok.W6 b hb,.inl hb,fun x c e=>(I'.ok.exf b hb).2 x c e,fun p hp=>absurd (show p∈([]:List (Addr×Obj))++[] from hp) (by simp)⟩
 have loop:codeAny (model X.prog X.w) X.A (.compLoop (.ListComp elt [⟨tg,iter,ifs,0⟩] scope pos) 0 (.ref it) (.ref D) ce) (compPost (model X.prog X.w) X.A X.xe use Qf (.ref D) s3.heap.objs.size) s4:=by
  refine JR (fun n s'=>∃ i H',Inv (X.blk s3 H3 scope ce fp) [] (wipe σ (own.map (·.2))) H' s'∧tn i s'.heap∧(∀ b∈fp,H' b=none)∧W i n H') ?_ m0 ⟨0,H3,I4,st4,V6,w0⟩;rintro n s5 ⟨i,H5,I5,st5,n5,w5⟩;rcases turn i n H5 w5 with ⟨stop,qq⟩ | ⟨go,Nx,hNx,step⟩
  ·have td:=T.done (X.blk s3 H3 scope ce fp) rfl rfl rfl hc i [] s5 _ H5 (fun _ _=>False) I5 (stat I5 n5) st5 stop;refine SM td fun r s6 dF=>aD dF fun hr I6=>?_;subst hr;have I7:Inv X pins σ H5 s6:=I3.call' (ch:=fp) I6.os I6.base I6.hok I6.bare fun b hb=>⟨(f3 b hb).1.2.2.2.1,(f3 b hb).1.2.1,(f3 b hb).1.2.2.2.2.1,(f3 b hb).1.2.2.2.2.2⟩;have nC:H5 s3.heap.objs.size=none:=by
    have z:H5 ce.locals=none:=I6.free;rw[cL] at z;exact z
   refine aA I6.loc fun m hn _=>?_;have hn:s6.heap.Ns ce.locals m:=hn;rw[cL] at hn;exact hRR D s3.heap.objs.size s6 m H5 I7 qq hn (I3.W4 (aFi _) nC)
  ·have ti:=T.item (X.blk s3 H3 scope ce fp) rfl rfl rfl hc i [] s5 _ H5 (fun _ _=>False) I5 (stat I5 n5) st5 go;refine SM ti fun r s6 eX=>aA eX fun u hr h6=>?_;subst hr;refine SM h6 fun _ s7 hE=>aT hE fun x H7 I7 r7 y7 st7 n7=>?_;have I7':=I7.pinned (stat I7 n7) (T.obj _ _ st7);refine SM (pg _ s7 _ H7 x u _ I7' r7 (step x H7 y7)) fun _ s8 p9=>aB p9 fun σ8 H8 I8 hw8 q8=>?_;refine SM (pt _ s8 σ8 H8 _ I8 q8) fun b s9 AS=>aA AS fun H9 I9 q9=>?_;have fin:∀ {s':Shared} {H':Hp},Inv (X.blk s3 H3 scope ce fp) ([]++DA fp s7.heap) σ8 H' s'→Nx H'→∃ m,m<n∧∃ i H',Inv (X.blk s3 H3 scope ce fp) [] (wipe σ (own.map (·.2))) H' s'∧tn i s'.heap∧(∀ b∈fp,H' b=none)∧W i m H':=fun {s' H'} I' nx=>by
    refine aA (hNx H' nx) fun m' hm w'=>?_;have aCu:∀ b∈fp,∀ o,s7.heap.get? b=some o→s'.heap.get? b=some o∧H' b=none:=fun b hb o e=>
     let z:=I'.pin (b,o) (aFR _ (aFR _ (vD hb e)))
     ⟨z.1,z.2.1⟩
    have hl:(wipe σ (own.map (·.2))).length=σ8.length:=by rw[←hw8,qF]
    refine⟨m',hm,i+1,H',(I'.vM (pins:=[])).weak hl (fun j v e=>?_),T.keep _ _ _ st7 fun b hb o e=>(aCu b hb o e).1,fun b hb=>?_,w'⟩
    ·rw[←hw8] at e;exact(yB e).1
    ·refine aA (T.obj _ _ st7 b hb) fun o e _=>?_;exact(aCu b hb o e).2
   cases b with
   | false=>
    simp only[Bool.false_eq_true,if_false] at q9 ⊢;exact fin I9 q9
   | true=>
    simp only[if_true] at q9 ⊢;refine SM (pe _ s9 σ8 H9 _ I9 q9) fun z s10 KJ=>aB KJ fun yv H10 I10 r10 NO=>aC NO fun acc aEz aEd nx=>?_;exact aBU (X:=X.blk s3 H3 scope ce fp) I10 aEz aEd r10 fun s11 I11=>fin I11 nx
 exact codeAny_compStart_list loop (T.self X.A 0 _ _ _ st4 loop)
theorem AC{elt tg iter:Expr}{ifs:List Expr}{scope:Scope}{own:List (Str×Nat)}{pos:Pos}{wi:TI}{g:TG}{tt:TT}{te:TE}(hc:X.calm=true)(hN:X.N.Nodup)(hi:PI X tg iter wi)(ok:NM X.N X.env.scope scope own)
  (hg:∀ (s:Shared) (H:Hp) (C:Addr) (cl:List (Str×Addr)) (fp:List Addr),PG (X.blk s H scope (compEnvC scope cl C X.env) fp) tg g) (ht:∀ (s:Shared) (H:Hp) (C:Addr) (cl:List (Str×Addr)) (fp:List Addr),PTs (X.blk s H scope (compEnvC scope cl C X.env) fp) ifs tt)
  (he:∀ (s:Shared) (H:Hp) (C:Addr) (cl:List (Str×Addr)) (fp:List Addr),PE (X.blk s H scope (compEnvC scope cl C X.env) fp) elt te) (hs:∀ x,foldedSetIterable iter X.env x=pure x:=by intro _;rfl):
  PE X (.ListComp elt [⟨tg,iter,ifs,0⟩] scope pos) (tLc wi g tt te (own.map (·.2))):=by
 intro pins s σ H Q I h;rw[eval_ListComp];refine RG hc hN I hi ok hg ht he hs h fun D C s' m H' I' q hn f=>⟨m,hn,fun h'' sb=>?_⟩;refine aK f fun f0 f1 f2 f3 f4 f5=>?_;exact⟨.ref D,H',I'.turned (t':=s'.toks) (fun b o hb e=>(sb.2 b hb).trans e) f0 f1 f3 f4 f5,rfl,q⟩
theorem LF{i:Nat}{y:Str}{py:Pos}{elt tg iter:Expr}{ifs:List Expr}{scope:Scope}{own:List (Str×Nat)}{pos spos:Pos}{wi:TI}{g:TG}{tt:TT}{te:TE}(hc:X.calm=true)(hN:X.N.Nodup)(hy:X.N[i]?=some y)(hyl:X.env.scope.names.lookup y=some .local)
  (hsw:swapsWith (.ListComp elt [⟨tg,iter,ifs,0⟩] scope pos) (some (.Name y py)) spos.line X.env=pure true) (hi:PI X tg iter wi) (ok:NM X.N X.env.scope scope own)
  (hg:∀ (s:Shared) (H:Hp) (C:Addr) (cl:List (Str×Addr)) (fp:List Addr),PG (X.blk s H scope (compEnvC scope cl C X.env) fp) tg g) (ht:∀ (s:Shared) (H:Hp) (C:Addr) (cl:List (Str×Addr)) (fp:List Addr),PTs (X.blk s H scope (compEnvC scope cl C X.env) fp) ifs tt)
  (he:∀ (s:Shared) (H:Hp) (C:Addr) (cl:List (Str×Addr)) (fp:List Addr),PE (X.blk s H scope (compEnvC scope cl C X.env) fp) elt te) (hs:∀ x,foldedSetIterable iter X.env x=pure x:=by intro _;rfl):
  PS X (.Assign [.Name y py] (.ListComp elt [⟨tg,iter,ifs,0⟩] scope pos) spos) (YF (tLc wi g tt te (own.map (·.2))) (MP i)):=by
 intro pins s σ H D I h;rw[exec_Assign_Name_used _ _ _ _ hsw];refine wpAny_bind (wpAny_standAt (wpAny_bind ?_));show wpAny _ X.A (do let _ ←comprehension (.ListComp elt [⟨tg,iter,ifs,0⟩] scope pos) scope X.env (firstIterPos [⟨tg,iter,ifs,0⟩] pos) (newList []) false (eval iter X.env) (some (assign (.Name y py) X.env))) _ _ s;have h:tLc wi g tt te (own.map (·.2)) σ H (fun x H1=>MP i x σ H1 D.nx):=h;refine wpAny_bind (eR (RG (Qf:=fun _ s'=>SP X pins D .next s') hc hN I hi ok hg ht he hs h fun L C s' m H' I' q hn f=>?_) fun _ s' hq=>wpAny_pure (wpAny_pure hq));show wpAny _ _ (assign (.Name y py) X.env (.ref L)) _ _ _;refine wpAny_assign_Name (GA (v:=V.ref L) I' hN hy (.inl hyl) rfl (fun s2 I2 bO=>aA bO fun a sb ha=>?_) (.inr hyl));refine aK f fun f0 f1 f2 f3 f4 f5=>?_;have haC:C≠a:=by
  rcases ha with z | z
  ·rw[z];exact f1
  ·exact fun e=>f4 y a z e.symm
 refine⟨m,hn.sameBut sb haC,fun h3 sb3=>?_⟩;exact⟨_,H',I2.turned (t':=s2.toks) (fun b o hb e=>(sb3.2 b hb).trans e) f0 f1 f3 f4 f5,q⟩
theorem QO{elt:Expr}{gs:List Comprehension}{scope:Scope}{pos py:Pos}{y:Str}{l:Nat}{env:Env}(hk:env.scope.kind= .function)(hy:env.scope.names.lookup y=some .local)(hl:(py.line==pos.line)=true)
  (ha:(scope.names.any fun (n,k)=>n==y&&(k== .local||k== .cell))=false):swapsWith (.ListComp elt gs scope pos) (some (.Name y py)) l env=pure true:=by
 have ky:env.kindOf y=some .local:=hy;have hb:env.blockKind= .function:=by unfold Env.blockKind;rw[hk];rfl
 unfold swapsWith;simp only[hb,ky,ha,Expr.pos,hl];rfl
end
theorem mJ{lo:Int}{n:Nat}{g:TG}{tt:TT}{te:TE}{vs:List Nat}{σ:St}{H1:Hp}{D:Addr}{Qd:Hp→Prop}(Pv:Nat→Hp→Prop)(h0:Pv 0 (upd H1 D (.lst [])))
  (hs:∀ i H,i<n→Pv i H→g (.int (lo+i)) (wipe σ vs) H fun σ2 H2=>wipe σ2 vs=wipe σ vs∧tt σ2 H2 fun b H3=>
   if b=true then te σ2 H3 fun y H4=>∃ acc,H4 D=some (.lst acc)∧acc.length<sizeLine∧Pv (i+1) (upd H4 D (.lst (acc++[y]))) else Pv (i+1) H3) (hd:∀ H,Pv n H→Qd H):
  ∃ W:Nat→Nat→Hp→Prop,(∃ m,W 0 m (upd H1 D (.lst [])))∧∀ i m H,W i m H →
   ((X5 lo n).stop i H∧Qd H)∨((X5 lo n).go i H∧∃ Nx:Hp→Prop,(∀ H',Nx H'→∃ m',m'<m∧W (i+1) m' H')∧∀ x H',(X5 lo n).UL i H x H'→g x (wipe σ vs) H' fun σ2 H2=>wipe σ2 vs=wipe σ vs∧tt σ2 H2 fun b H3=>
    if b=true then te σ2 H3 fun y H4=>∃ acc,H4 D=some (.lst acc)∧acc.length<sizeLine∧Nx (upd H4 D (.lst (acc++[y]))) else Nx H3):=by
 refine⟨fun i m H=>m=n-i∧i≤n∧Pv i H,⟨n,by simp,aFx _,h0⟩,?_⟩;rintro i m H ⟨rfl,hi,p⟩;by_cases hlt:i<n
 ·refine .inr ⟨hlt,Pv (i+1),fun H' p'=>⟨n-(i+1),by lia,rfl,hlt,p'⟩,fun x H' y=>?_⟩;obtain⟨e,y⟩:=y;subst e y;exact hs i _ hlt p
 ·have e:i=n:=by lia
  subst e;exact .inl ⟨aFi _,hd H p⟩
theorem RF{K:W.Frag}{a:Addr}{xs:List V}{g:TG}{tt:TT}{te:TE}{vs:List Nat}{σ:St}{H1:Hp}{D:Addr}{Qd:Hp→Prop}(Pv:Nat→Hp→Prop)(h0:Pv 0 (upd H1 D (.lst [])))(hl:∀ i H,i≤xs.length→Pv i H→cT K H a xs)
  (hs:∀ i x H,xs[i]?=some x→Pv i H→g x (wipe σ vs) H fun σ2 H2=>wipe σ2 vs=wipe σ vs∧tt σ2 H2 fun b H3=>
   if b=true then te σ2 H3 fun y H4=>∃ acc,H4 D=some (.lst acc)∧acc.length<sizeLine∧Pv (i+1) (upd H4 D (.lst (acc++[y]))) else Pv (i+1) H3) (hd:∀ H,Pv xs.length H→Qd H):
  ∃ W:Nat→Nat→Hp→Prop,(∃ m,W 0 m (upd H1 D (.lst [])))∧∀ i m H,W i m H →
   ((Itl K a).stop i H∧Qd H)∨((Itl K a).go i H∧∃ Nx:Hp→Prop,(∀ H',Nx H'→∃ m',m'<m∧W (i+1) m' H')∧∀ x H',(Itl K a).UL i H x H'→g x (wipe σ vs) H' fun σ2 H2=>wipe σ2 vs=wipe σ vs∧tt σ2 H2 fun b H3=>
    if b=true then te σ2 H3 fun y H4=>∃ acc,H4 D=some (.lst acc)∧acc.length<sizeLine∧Nx (upd H4 D (.lst (acc++[y]))) else Nx H3):=by
 refine⟨fun i m H=>m=xs.length-i∧i≤xs.length∧Pv i H,⟨xs.length,by simp,aFx _,h0⟩,?_⟩;rintro i m H ⟨rfl,hi,p⟩;have q:=hl i H hi p;by_cases hlt:i<xs.length
 ·refine .inr ⟨⟨xs,xs[i],q,by simp [hlt]⟩,Pv (i+1),fun H' p'=>⟨xs.length-(i+1),by lia,rfl,hlt,p'⟩,fun x H' y=>?_⟩;obtain⟨e,y⟩:=y;subst e;exact hs i x _ (y xs q) p
 ·have e:i=xs.length:=by lia
  subst e;exact .inl ⟨⟨xs,q,aFi _⟩,hd H p⟩
end L2
namespace L2
open PySem PySem.Spec PyProof.Rows
section
variable{prog:Program}{w:World}{A:Around}{R:Result→Shared→Prop}{s:Shared}{elt t0 i0 t1 i1:Expr}{aET aES:List Expr}{scope:Scope}{pos:Pos}{it acc:Value}{env:Env}
end
section
variable{X:Cx}
end
end L2
namespace L2
open PySem PySem.Spec PyProof.Rows
section
variable{κ:Type} [DecidableEq κ]
def KM(kvs:List (κ×V))(k:κ):Option V:=(kvs.find? fun kv=>decide (kv.1=k)).map (·.2)
theorem UX{p:κ×V}{r:List (κ×V)}{k:κ}(e:p.1=k):KM (p::r) k=some p.2:=by simp [KM,List.find?_cons,e]
theorem UY{p:κ×V}{r:List (κ×V)}{k:κ}(e:¬p.1=k):KM (p::r) k=KM r k:=by simp [KM,List.find?_cons,e]
theorem xU.getD{o:Option V}{u:Option Value}{d:V}{d':Value}(r:xU o u)(rd:RelV d d'):RelV (o.getD d) (u.getD d'):=by
 cases o with
 | none=>cases u with
  | none=>exact rd
  | some _=>exact(show False from r).elim
 | some _=>cases u with
  | none=>exact(show False from r).elim
  | some _=>exact r
theorem KV.val{kvs:List (κ×V)}{vs:List (κ×Value)}(r:KV kvs vs)(k:κ):xU (KM kvs k) (valueAt vs k):=by
 unfold KV at r
 induction r with
 | nil=>exact True.intro
 | @cons p q ps qs h t ih=>
  obtain⟨h1,h2⟩:=h;by_cases e:p.1=k
  ·have e':q.1=k:=h1.symm.trans e;have b:valueAt (q::qs) k=some q.2:=by simp [valueAt,List.find?_cons,e']
   rw[UX e,b];exact h2
  ·have e':¬q.1=k:=fun z=>e (h1.trans z);have b:valueAt (q::qs) k=valueAt qs k:=by simp [valueAt,List.find?_cons,e']
   rw[UY e,b];exact ih
end
theorem aAu{P:Program}{w:World}{k:Key}{u:Value}(r:RelV (kV k) u):(nJ P w).is k u=true:=by
 cases k with
 | inl i=>obtain⟨t,e⟩:=(show ∃ t,u=Value.int i t from r);subst e;exact rN P w i t
 | inr x=>obtain⟨t,e⟩:=(show ∃ t,u=Value.str x t from r);subst e;exact MB P w x t
section
variable{P:Program}{w:World}{H:Hp}{h:Heap}{a:Addr}
end
section
variable{X:Cx}{pins:List (Addr×Obj)}{σ:St}{H:Hp}{s:Shared}{a:Addr}{y v:V}{u r:Value}{o:Option V}{A:Around}{E:Value→Shared→Prop}
end
section
variable{X:Cx}{pins:List (Addr×Obj)}{σ:St}{H:Hp}{s:Shared}{a:Addr}{kvs:List (Key×V)}{k:Key}{u:Value}{A:Around}{E:Value→Shared→Prop}
end
def aDc(i:Expr):Prop:=∀ ov iv,subscripted i false ov iv=operate [ov,iv] (getItem ov iv)
theorem YH{prog:Program}{w:World}{A:Around}{E:Value→Shared→Prop}{s:Shared}{env:Env}{value slice:Expr}{pos:Pos}{T id:String}{Q:Value→Shared→Prop}
  (hl:typeLookup (.type T) "__getitem__"=pure (some (.builtin id))) (hs:aDc slice)
  (h:wpAny (model prog w) A (eval value env) (fun o s₁=>wpAny (model prog w) A (eval slice env) (fun i s₂=>s₂.TypeIs o T∧wpAny (model prog w) A (getItem o i) Q E s₂) E s₁) E s):
  wpAny (model prog w) A (eval (.Subscript value slice pos) env) Q E s:=by
 refine Subscript_ (wpAny_mono h (fun o s₁ h₁=>wpAny_mono h₁ (fun i s₂ h₂=>?_) fun _ _ x=>x) fun _ _ x=>x);obtain⟨hT,h₂⟩:=h₂;unfold subscriptTail;refine wpAny_bind ?_;rw[getitemInPython_of_ne hT.not_modules];refine wpAny_bind (wpAny_specialOf hT hl ?_);have fin:wpAny (model prog w) A (subscripted slice false o i) (fun r s₃=>wpAny (model prog w) A (letTemporaryGo value o r >>= fun _=>pure r) Q E s₃) E s₂:=by
  rw[hs o i];exact wpAny_operating (wpAny_mono h₂ (fun r s₃ h₃=>wpAny_bind (wpAny_letTemporaryGo (wpAny_pure h₃))) fun _ _ x=>x)
 first
  | exact wpAny_pure (wpAny_bind fin)
  | exact wpAny_bind (wpAny_pure (wpAny_bind fin))
  | exact wpAny_bind fin
section
variable{X:Cx}{o i e value:Expr}{pos pos' tpos:Pos}{td ty tv:TE}
end
section
variable{X:Cx}{pos:Pos}
end
structure M2(X:Cx)(o:Expr)(m:Str)(apos:Pos)(e f:Expr)(cpos:Pos):Prop where
 base:attributeBase o m X.env (eval o X.env)=eval o X.env
 few:((backTo cpos (starEach [e,f] X.env)).all (fun x=> !x.1)&&(backToKw cpos (keywordEach [] X.env)).all (fun x=>x.1.isSome)
  && decide (([e,f]:List Expr).length+([]:List Keyword).length+(if ([]:List Keyword).isEmpty then 0 else 1)<30))=true
 line:(apos.endLine==cpos.line)=true
 trees:backTo cpos (starEach [e,f] X.env)=[(false,eval e X.env),(false,eval f X.env)]
section
variable{X:Cx}{pins:List (Addr×Obj)}{σ:St}{H:Hp}{s:Shared}{a:Addr}{y d:V}{u r:Value}{o:Option V}{A:Around}{E:Value→Shared→Prop}
end
section
variable{X:Cx}{o e f:Expr}{apos cpos:Pos}{td ty tx:TE}
end
section
variable{X:Cx}{pins:List (Addr×Obj)}{σ:St}{H:Hp}{s:Shared}{a:Addr}{kvs:List (Key×V)}{A:Around}{E:Value→Shared→Prop}
end
section
variable{X:Cx}{pins:List (Addr×Obj)}{σ:St}{H:Hp}{s:Shared}{a:Addr}{y:V}{u:Value}{A:Around}{E:Value→Shared→Prop}
end
end L2
namespace L2
open PySem PySem.Spec PyProof.Rows
section
variable{prog:Program}{w:World}{A:Around}{E:Value→Shared→Prop}
end
section
variable{X:Cx}
end
end L2
namespace L2
open PySem PySem.Spec PyProof.Rows
section
variable{X:Cx}{pins:List (Addr×Obj)}{σ:St}{H:Hp}{s:Shared}{h':Heap}
end
section
variable{X:Cx}
theorem aBd{tg:Expr}{pins:List (Addr×Obj)}{σ:St}{H:Hp}{s:Shared}{R:It→Hp→Prop}{J:It}{tn:Nat→Heap→Prop}{tk:Nat}(I:Inv X pins σ H s)(o:Obj)
  (T:Turn X.prog X.w X.K tg J [s.heap.objs.size] s.heap.objs.size tn) (st:tn 0 (s.heap.push o)) (q:R J H):PIE X pins σ tg R (.ref s.heap.objs.size) {s with heap:=s.heap.push o,toks:=tk}:=by
 refine⟨s.heap.objs.size,[s.heap.objs.size],tn,J,H,rfl,I.kept fun b ob e=>Heap.get?_push_of_some _ e,T,st,fun b hb=>?_,q⟩;have e:b=s.heap.objs.size:=by simpa using hb
 subst e;exact I.W4 (aFi _) (I.hok.fresh (aFi _))
end
def Itc(lo c:Int)(n:Nat):It:=⟨fun i _=>i<n,fun i H x H'=>H'=H∧x= .int (lo+(i:Nat)*c),fun i _=>n≤i⟩
theorem KP{P:Program}{w:World}{K:W.Frag}{tg:Expr}(it:Addr)(lo c:Int)(n:Nat):Turn P w K tg (Itc lo c n) [it] it (fun i h=>IsRangeIter h it (lo+(i:Nat)*c) ((n:Int)-(i:Nat)) c) where
 mem:=by simp
 obj:=fun i h st b hb=>by
  have e:b=it:=by simpa using hb
  subst e;exact⟨_,st,fun v z=>nomatch z⟩
 keep:=fun i h h' st k=>k it (by simp) _ st
 item:=by
  intro X hP hw hK hc i pins s σ H E I hf st hg;subst hP hw hK;refine aK (hf it (by simp)) fun f0 f1 f2 f3 f4 f5=>?_;have W:=Walks.range (prog:=X.prog) (w:=X.w) (I.ok.hd hc) it lo c n;refine W.item i s _ _ hg st fun v h' tk hv st' kk=>?_;obtain⟨t,rfl⟩:=hv;have I1:Inv X pins σ H {s with heap:=h',toks:=tk}:=I.turned (fun b o hb e=>kk b o (by simpa using hb) e) f0 f1 f3 f4 f5;exact⟨_,rfl,RR (s:={s with heap:=h',toks:=tk}) (n:="range_iterator") st' rfl rfl (by decide) ⟨.int (lo+(i:Nat)*c),H,I1,⟨t,rfl⟩,⟨rfl,rfl⟩,st',fun b hb=>(hf b hb).1⟩⟩
 done:=by
  intro X hP hw hK hc i pins s σ H E I hf st hg;subst hP hw hK;refine aK (hf it (by simp)) fun f0 f1 f2 f3 f4 f5=>?_;exact wpAny_pyNext_range_end (I.ok.hd hc) st (by have:n≤i:=hg;lia) fun h' eb=>⟨rfl,I.turned (t':=s.toks) (fun b o hb e=>eb b o hb e) f0 f1 f3 f4 f5⟩
 self:=fun A i s Q E st h=>wpAny_pyIter_rangeiter st h
def RgC(i j c:Int)(n:Nat):Prop:=c≠0∧c.natAbs<1073741824∧Builtin.Range.small i j c=true∧Builtin.Range.rangeSize i j c=n
def WP(ta:TA):TI:=fun σ H R=>ta σ H fun vs H1=>∃ (i j c:Int) (n:Nat),vs=[.int i,.int j,.int c]∧RgC i j c n∧R (Itc i c n) H1
section
variable{X:Cx}{tg:Expr}
theorem yN{a b c:Expr}{ta:TA}{p pos:Pos}(hg:Gl X "range")(hm:X.mg "range"=none)(ha:PA X [a,b,c] ta)
  (hs:starEach [a,b,c] X.env=(false,eval a X.env)::starEach [b,c] X.env:=by rfl) (hpl:(backTo pos (starEach [b,c] X.env)).any (·.1)=false:=by rfl):
  PI X tg (.Call (.Name "range" p) [a,b,c] [] pos) (WP ta):=by
 intro pins s σ H R I h;refine Call_ (DW I hg hm boot_range (PyProof.Rows.callWith_type1 (eR (ha pos pins s σ H _ I h) fun us s1 bO=>aB bO fun vs H1 I1 r1 q1=>?_) hs hpl));(refine aE q1 fun i j k cA=>?_;refine aC cA fun n e dF q=>?_;obtain⟨c0,c1,c2,c3⟩:=dF);subst e
 cases r1 with
 | cons r rr=>
  cases rr with
  | cons r' rr=>
   cases rr with
   | cons r'' rr=>
    cases rr;obtain⟨t,rfl⟩:=r;obtain⟨t',rfl⟩:=r';obtain⟨t'',rfl⟩:=r'';refine call_range_3 c0 ?_ (.inl (PyProof.noPylong_small c1));refine wpAny_pyIter_range (IsRange.new ..) c2 ?_;have I2:Inv X pins σ H1 {s1 with heap:=s1.heap.push {cls:= .type "range",data:= .fields #[.int i t,.int j t',.int k t'']}}:=I1.kept (t':=s1.toks) fun b o e=>Heap.get?_push_of_some _ e;refine aBd (tk:=s1.toks) I2 _ (KP _ i k n) ?_ q;have e1:i+((0:Nat):Int)*k=i:=by simp
    have e2:(n:Int)-((0:Nat):Int)=Builtin.Range.rangeSize i j k:=by rw[c3];simp
    show IsRangeIter _ _ (i+((0:Nat):Int)*k) ((n:Int)-((0:Nat):Int)) k;rw[e1,e2];exact Heap.get?_push_size _ rfl
end
theorem ED{lo c:Int}{n:Nat}{g:TG}{tb:TS}{D:Ends}{σ:St}{H:Hp}(Pv:Nat→St→Hp→Prop)(h0:Pv 0 σ H)
  (hs:∀ i σ H,i<n→Pv i σ H→g (.int (lo+(i:Nat)*c)) σ H fun σ2 H2=>tb {D with nx:=Pv (i+1),ct:=Pv (i+1),bk:=D.nx} σ2 H2) (hd:∀ σ H,Pv n σ H→D.nx σ H):
  ∃ W:Nat→Nat→St→Hp→Prop,(∃ m,W 0 m σ H)∧∀ i m σ H,W i m σ H →
   ((Itc lo c n).stop i H∧D.nx σ H)∨((Itc lo c n).go i H∧∃ N:St→Hp→Prop,(∀ σ' H',N σ' H'→∃ m',m'<m∧W (i+1) m' σ' H')∧∀ x H',(Itc lo c n).UL i H x H'→g x σ H' fun σ2 H2=>tb {D with nx:=N,ct:=N,bk:=D.nx} σ2 H2):=by
 refine⟨fun i m σ H=>m=n-i∧i≤n∧Pv i σ H,⟨n,by simp,aFx _,h0⟩,?_⟩;rintro i m σ H ⟨rfl,hi,p⟩;by_cases hlt:i<n
 ·refine .inr ⟨hlt,Pv (i+1),fun σ' H' p'=>⟨n-(i+1),by lia,rfl,hlt,p'⟩,fun x H' y=>?_⟩;obtain⟨e,y⟩:=y;subst e y;exact hs i σ _ hlt p
 ·have e:i=n:=by lia
  subst e;exact .inl ⟨aFi _,hd σ H p⟩
section
variable{X:Cx}{tg:Expr}
end
section
variable{prog:Program}{w:World}{A:Around}{E:Value→Shared→Prop}{s:Shared}
end
section
variable{X:Cx}{pins:List (Addr×Obj)}{σ:St}{H:Hp}{s:Shared}{d:Addr}{o:Obj}
end
section
variable{P:Program}{w:World}{K:W.Frag}{tg:Expr}{d:Addr}{o:Obj}{es:Array DictEntry}{ep:Nat}
end
section
variable{X:Cx}{tg e:Expr}{td:TE}{apos cpos:Pos}
end
end L2
section
namespace Bits
open PySem PyProof.Rows
theorem p6(m k:Nat):(m:Int)*2 ^ k=((m*2 ^ k:Nat):Int):=by
 rw[two_pow_cast]
 first
  | exact(aFw _ _).symm
  | simp
theorem A3(m:Nat):∀ n:Nat,(m ^^^ n)+2*(m &&& n)=m+n:=by
 induction m using Nat.strongRecOn with
 | _ m ih=>
  intro n;by_cases h0:m=0
  ·subst h0;simp
  ·have ih':=ih (m / 2) (by lia) (n / 2);rw[←Nat.xor_div_two,←Nat.and_div_two] at ih';have o1:=@Nat.xor_mod_two_eq_one m n;have a1:=@Nat.and_mod_two_eq_one m n;lia
theorem UA{x y:Int}(hx:0≤x)(hy:0≤y):Builtin.bitXor x y=((x.toNat ^^^ y.toNat:Nat):Int):=by
 have e:=A3 x.toNat y.toNat;rw[bitXor_and,bitAnd_pp hx hy];omega
theorem XM{x y:Int}(hx:0≤x)(hy:0≤y):Builtin.bitOr x y=((x.toNat ||| y.toNat:Nat):Int):=by
 have e:=nat_or_add_and x.toNat y.toNat;rw[bitOr_and,bitAnd_pp hx hy];lia
end Bits
end
section
namespace TL
open PySem PySem.Builtin PySem.Builtin.Str PySem.StrLaws
end TL
end
namespace L2
open PySem PySem.Spec PyProof.Rows
section
variable{X:Cx}{pins:List (Addr×Obj)}{σ:St}{H:Hp}{s:Shared}{Q:VK}
end
section
variable{X:Cx}
end
section
variable{X:Cx}{o e:Expr}{to te:TE}
end
end L2
namespace L2
open PySem PySem.Spec PyProof.Rows
section
variable{X:Cx}
end
end L2
namespace Att
open PySem PySem.W PySem.Calls PyProof.Rows
section
variable{prog:Program}{w:World}{A:Around}{E:Value→Shared→Prop}{s:Shared}{K:Frag}
end
end Att
namespace L2
open PySem PySem.Spec PyProof.Rows
end L2
namespace L2
open PySem PySem.Spec PyProof.Rows
end L2
namespace L2
open PySem PySem.Spec PyProof.Rows
def inClass(s:Stmt)(j:Nat):Stmt:=match s with
 | .ClassDef _ _ _ body _ _ _ _ _ _ _=>body.getD j (.Pass ⟨0,0,0,0⟩)
 | _=> .Pass ⟨0,0,0,0⟩
def iL(s:Stmt):Arguments:=match s with
 | .FunctionDef _ a _ _ _ _ _ _ _ _=>a
 | _=>{posonlyargs:=[],args:=[],vararg:=none,kwonlyargs:=[],kw_defaults:=[],kwarg:=none,defaults:=[]}
def cX(s:Stmt):List Stmt:=match s with
 | .FunctionDef _ _ b _ _ _ _ _ _ _=>b
 | _=>[]
def bC(s:Stmt):Scope:=match s with
 | .FunctionDef _ _ _ _ _ _ sc _ _ _=>sc
 | _=>{kind:= .function,names:=[],isGenerator:=false,isCoroutine:=false}
abbrev R9:QI:=fun _ _ _ _ _ _=>False
abbrev E0:XK:=fun _ _ _=>False
theorem GU{X:Cx}:Passes R9 X E0:=fun _ _ _ _ _ _ _ h=>h.elim
structure Fun(K:W.Frag)(x qual:Str)(st:Stmt)(f:Addr)(fd:FuncData):Prop where
 ex:∃ (oc:Value) (od:Option Addr) (kV doc pm:Value) (an:Option Addr) (cdv ct:Value) (osl:Array (Option Value)),
  fd=W.fnOf x qual (iL st) (cX st) (bC st) .none kV doc pm an cdv ct∧K.lookup f=some ⟨oc,od,.func fd,osl⟩∧W.codeIn K cdv qual=true
 kp:W.keepIn K (.ref f)=true
section
variable{P:Program}{w:World}{K:W.Frag}{mg:Str→Option Value}{base:Heap}
theorem Fun.ok{x qual:Str}{st:Stmt}{f:Addr}{fd:FuncData}{N ps:List Str}{k:Nat}{sp:Sp}(F:Fun K x qual st f fd)(S:bJ N ps (bC st))(len:∀ vs H Q E,sp vs H Q E→vs.length=ps.length)
  (hbody:∀ (cdv:Value) (A:Around) (outer:List Env) (s:Shared) (H:Hp) (vs:List V) (Q:VK) (E:XK),f8 k (A.deeper (envOfC qual (bC st) s.heap.objs.size f cdv))→sp vs H Q E →
   ∃ t,MZ (A4 R9 P w K mg base N qual (bC st) f cdv A outer s H E).X0 (cX st) t∧t {nx:=fun _ H'=>Q .non H',rt:=Q} (start N vs) H):mU P w K mg base R9 (k+1) f fd ps sp:=by
 (refine aE F.ex fun oc od kV bO=>?_;refine aE bO fun doc pm an cA=>?_;refine aJ cA fun cdv ct osl dF lk hcd=>?_;subst dF);refine aAw lk hcd S len fun A outer s H vs Q E hr hsp=>?_;refine aA (hbody cdv A outer s H vs Q E hr hsp) fun t h q=>?_;exact⟨t,h.X0,q⟩
theorem Fun.binds{x qual:Str}{st:Stmt}{f:Addr}{fd:FuncData}{ps:List Str}(F:Fun K x qual st f fd)
  (h:∀ (kV doc pm:Value) (an:Option Addr) (cdv ct:Value) (us:List Value),us.length=ps.length→bindArgs (W.fnOf x qual (iL st) (cX st) (bC st) .none kV doc pm an cdv ct) ⟨us,[]⟩=pure (ps.zip us)):Binds K fd ps []:=by
 (refine aE F.ex fun oc od kV bO=>?_;refine aE bO fun doc pm an cA=>?_;refine aJ cA fun cdv ct osl dF lk hcd=>?_;subst dF);exact .all (h kV doc pm an cdv ct)
theorem PV{x qual:Str}{st:Stmt}{f:Addr}{oc:Value}{od an:Option Addr}{osl:Array (Option Value)}{kV doc pm cdv ct:Value}(l:K.lookup f=some ⟨oc,od,.func (W.fnOf x qual (iL st) (cX st) (bC st) .none kV doc pm an cdv ct),osl⟩)
  (c:W.codeIn K cdv qual=true) (k:W.keepIn K (.ref f)=true):Fun K x qual st f (W.fnOf x qual (iL st) (cX st) (bC st) .none kV doc pm an cdv ct):=⟨⟨oc,od,kV,doc,pm,an,cdv,ct,osl,rfl,l,c⟩,k⟩
end
section
variable{X:Cx}
theorem pv(i:Nat){x:Str}{pos:Pos}(hN:X.N[i]?=some x:=by rfl)(hv:Vis X.env.scope x:=by first | exact Or.inl rfl | exact Or.inr (Or.inl rfl) | exact Or.inr (Or.inr rfl))(hd:(x==("__debug__":Str))=false:=by decide)
  (hcd:(x==("__classdict__":Str))=false:=by decide):PE X (.Name x pos) (NY i):=aBe hN hv hd hcd
end
theorem aBB{A B:Prop}(h:B):if false=true then A else B:=by
 rw[if_neg Bool.false_ne_true];exact h
theorem aBA{A B:Prop}(h:A):if true=true then A else B:=by
 rw[if_pos rfl];exact h
theorem cZ{c A B:Prop} [Decidable c] (h1:c→A)(h2:¬c→B):if c then A else B:=by
 by_cases h:c
 ·rw[if_pos h];exact h1 h
 ·rw[if_neg h];exact h2 h
def Same(H H':Hp):Prop:=∀ b o,H b=some o→H' b=some o
theorem Same.refl(H:Hp):Same H H:=fun _ _ h=>h
theorem Same.trans{H H1 H2:Hp}(a:Same H H1)(b:Same H1 H2):Same H H2:=fun c o h=>b c o (a c o h)
theorem Same.free{H H':Hp}(e:Same H H'){l:Addr}(h:H' l=Option.none):H l=Option.none:=by
 cases q:H l with
 | none=>rfl
 | some o=>
  rw[e l o q] at h;cases h
theorem Same.seq{K:W.Frag}{H H':Hp}{a:Addr}{xs:List V}(e:Same H H')(h:cT K H a xs):cT K H' a xs:=by
 rcases h with (h | ⟨o,h⟩) | h
 ·exact .inl (.inl (e _ _ h))
 ·exact .inl (.inr ⟨o,e _ _ h⟩)
 ·exact .inr h
section
variable{κ:Type} [DecidableEq κ]
end
theorem at_of{xs:List V}{z:Int}{j:Nat}{v:V}(e:z=(j:Int))(h:xs[j]?=some v):NN xs z=some v:=by
 rw[e];exact aAa h
theorem Same.made{H H1:Hp}{x dx C:Addr}(nx:H x=Option.none)(nd:H dx=Option.none)(k:∀ b o,(upd (upd H dx (.own x)) x (.ins C dx [])) b=some o→b≠x→H1 b=some o):Same H H1:=fun b o e=>
 k b o (by rw[bF (dR e nx),bF (dR e nd)];exact e) (dR e nx)
end L2
section
namespace L2
open PySem PySem.Spec PyProof.Rows
open PySem.W (WData Codec OpenSpec Well WellAll ReadsW ReadsAllW)
mutual
inductive Dw(K:W.Frag)(H:Hp):V→WData→Prop
 | non:Dw K H .non .none
 | bl (b:Bool):Dw K H (.bl b) (.bool b)
 | int (i:Int):Dw K H (.int i) (.int i)
 | str (x:Str):Dw K H (.str x) (.str x)
 | T9 (b:Array UInt8):Dw K H (.T9 b) (.bytes b.toList)
 | lst {a:Addr} {xs:List V} {ds:List WData}:cT K H a xs→pD K H xs ds→Dw K H (.ref a) (.list ds)
 | tup {a:Addr} {xs:List V} {ds:List WData}:gF K H a xs→pD K H xs ds→Dw K H (.ref a) (.tuple ds)
inductive pD(K:W.Frag)(H:Hp):List V→List WData→Prop
 | nil:pD K H [] []
 | cons {v:V} {vs:List V} {d:WData} {ds:List WData}:Dw K H v d→pD K H vs ds→pD K H (v::vs) (d::ds)
end
theorem RT{K:W.Frag}{H:Hp}:∀ ns:List Int,pD K H (ns.map V.int) (ns.map WData.int)
 | []=> .nil
 | n::r=> .cons (.int n) (RT r)
theorem RO{K:W.Frag}{H:Hp}:∀ (ns:List Int) (xs:List V),pD K H xs (ns.map WData.int)→xs=ns.map V.int
 | [],xs,h=>by
  cases h;rfl
 | n::r,xs,h=>by
  cases h with
  | cons h1 h2=>
   cases h1;rw[RO r _ h2] <;> rfl
section
variable{P:Program}{w:World}{K:W.Frag}{H:Hp}{h:Heap}{R:W.WRecords}{cl:Str→Option Addr}
theorem aAN{a:Addr}{xs:List V}(hok:xY P w H h)(KX:K.In h)(q:cT K H a xs):∃ (its:List Value) (o:Obj) (n:Nat),Vals xs its∧h.get? a=some o∧o.cls= .type "list"∧o.data= .seq its.toArray n:=by
 rcases q with q | ⟨o,its,n,e,hc,_,hd,_,hv⟩
 ·(refine aD ((show jH P w H h a (.lst xs) from q.ok hok)) fun _ bO=>?_;refine aH bO fun its n hv e=>?_);exact⟨its,_,n,hv,e,rfl,rfl⟩
 ·exact⟨its.toList,o,n,hv,KX _ _ e,hc,by simp [hd]⟩
theorem aAM{a:Addr}{xs:List V}(hok:xY P w H h)(KX:K.In h)(q:gF K H a xs):∃ (its:List Value) (o:Obj) (n:Nat),Vals xs its∧h.get? a=some o∧o.cls= .type "tuple"∧o.data= .seq its.toArray n:=by
 rcases q with q | ⟨o,its,n,e,hc,hd,_,hv⟩
 ·(refine aD ((show jH P w H h a (.tup xs) from q.ok hok)) fun _ bO=>?_;refine aA bO fun its hv cA=>?_;refine aC cA fun o e hc dF=>?_;refine aV dF fun n hd=>?_);exact⟨its,o,n,hv,e,hc,hd⟩
 ·exact⟨its.toList,o,n,hv,KX _ _ e,hc,by simp [hd]⟩
mutual
theorem Dw.reads(hok:xY P w H h)(KX:K.In h):∀ (d:WData) (v:V) (u:Value),Dw K H v d→RelV v u→∃ as,ReadsW R cl h u d as
 | .none,_,_,x,r=>by
  cases x;cases r;exact⟨_,ReadsW.none⟩
 | .bool b,_,_,x,r=>by
  cases x;cases r;exact⟨_,ReadsW.bool b⟩
 | .int i,_,_,x,r=>by
  cases x;obtain⟨t,rfl⟩:=r;exact⟨_,ReadsW.int i t⟩
 | .str s,_,_,x,r=>by
  cases x;obtain⟨t,rfl⟩:=r;exact⟨_,ReadsW.str s t⟩
 | .bytes b,_,_,x,r=>by
  cases x;obtain⟨t,rfl⟩:=r;exact⟨_,ReadsW.bytes _ t⟩
 | .list ds,_,_,x,r=>by
  cases x with
  | lst hs ha=>
   cases r;refine aQ (aAN hok KX hs) fun its o n rv ho hc hd=>?_;obtain⟨as,hr⟩:=Dw.readsAll hok KX ds _ its ha rv;exact⟨_,ReadsW.list ho hc hd hr⟩
 | .tuple ds,_,_,x,r=>by
  cases x with
  | tup hs ha=>
   cases r;refine aQ (aAM hok KX hs) fun its o n rv ho hc hd=>?_;obtain⟨as,hr⟩:=Dw.readsAll hok KX ds _ its ha rv;exact⟨_,ReadsW.tuple ho hc hd hr⟩
 | .float _,_,_,x,_=>by cases x
 | .dict _,_,_,x,_=>by cases x
 | .bytearray _,_,_,x,_=>by cases x
 | .set _,_,_,x,_=>by cases x
 | .frozenset _,_,_,x,_=>by cases x
 | .obj _ _,_,_,x,_=>by cases x
theorem Dw.readsAll(hok:xY P w H h)(KX:K.In h):∀ (ds:List WData) (vs:List V) (us:List Value),pD K H vs ds→Vals vs us→∃ as,ReadsAllW R cl h us ds as
 | [],_,_,x,r=>by
  cases x;cases r;exact⟨_,ReadsAllW.nil⟩
 | d::ds,_,_,x,r=>by
  cases x with
  | cons h1 h2=>
   cases r with
   | cons r1 r2=>
    obtain⟨as,q1⟩:=Dw.reads hok KX d _ _ h1 r1;obtain⟨bs,q2⟩:=Dw.readsAll hok KX ds _ _ h2 r2;exact⟨_,ReadsAllW.cons q1 q2⟩
end
end
mutual
def Q0:WData→Bool
 | .none=>true
 | .bool _=>true
 | .int _=>true
 | .str _=>true
 | .bytes _=>true
 | .list xs=>AU xs
 | .tuple xs=>AU xs
 | _=>false
def AU:List WData→Bool
 | []=>true
 | x::r=>Q0 x&&AU r
end
theorem LJ{α:Type}{f:α→WData}(h:∀ a,Q0 (f a)=true):∀ l:List α,AU (l.map f)=true
 | []=>rfl
 | x::r=>by
  show (Q0 (f x)&&AU (r.map f))=true;rw[h x,LJ h r] <;> rfl
theorem rG:∀ (c:Codec) (a:c.denote),Q0 (c.enc a)=true
 | .unit,_=>rfl
 | .bool,_=>rfl
 | .int _ _,_=>rfl
 | .nat _ _,_=>rfl
 | .u8,_=>rfl
 | .bytes _ _,_=>rfl
 | .text _ _ _ _,_=>rfl
 | .list _ _ c,a=>LJ (fun x=>rG c x) a
 | .pair c d,a=>by
  show (Q0 (c.enc a.1)&&(Q0 (d.enc a.2)&&true))=true;rw[rG c a.1,rG d a.2] <;> rfl
 | .triple c d e,a=>by
  show (Q0 (c.enc a.1)&&(Q0 (d.enc a.2.1)&&(Q0 (e.enc a.2.2)&&true)))=true;rw[rG c a.1,rG d a.2.1,rG e a.2.2] <;> rfl
 | .option c,none=>rfl
 | .option c,some x=>rG c x
theorem GR:∀ (cs:List Codec) (a:Codec.denoteAll cs),AU (Codec.encAll cs a)=true
 | [],_=>rfl
 | c::cs,a=>by
  show (Q0 (c.enc a.1)&&AU (Codec.encAll cs a.2))=true;rw[rG c a.1,GR cs a.2] <;> rfl
theorem uJ:∀ {xs:List WData} {d:WData},d∈xs→d.weight≤WData.weightAll xs
 | [],d,h=>absurd h (by simp)
 | x::r,d,h=>by
  show d.weight≤x.weight+1+WData.weightAll r;rcases aEZ.mp h with e | m
  ·rw[e];lia
  ·have z:=uJ m;lia
def toV:Value→V
 | .none=> .non
 | .bool b=> .bl b
 | .int i _=> .int i
 | .str x _=> .str x
 | .bytes b _=> .T9 b
 | .ref a=> .ref a
 | _=> .non
def UE(A:List Addr):Value→Prop
 | .none=>True
 | .bool _=>True
 | .int _ _=>True
 | .str _ _=>True
 | .bytes _ _=>True
 | .ref a=>a∈A
 | _=>False
theorem UE.mono{A B:List Addr}(h:∀ a∈A,a∈B):∀ {u:Value},UE A u→UE B u:=fun {u} x=>by
 cases u with
 | ref a=>exact h a x
 | none=>trivial
 | bool b=>trivial
 | int i t=>trivial
 | str s t=>trivial
 | bytes b t=>trivial
 | _=>exact False.elim x
theorem VJ{A:List Addr}{u:Value}(x:UE A u):RelV (toV u) u:=by
 cases u with
 | ref a=>rfl
 | none=>rfl
 | bool b=>rfl
 | int i t=>exact⟨t,rfl⟩
 | str s t=>exact⟨t,rfl⟩
 | bytes b t=>exact⟨t,rfl⟩
 | _=>exact False.elim x
theorem oH{A:List Addr}:∀ {vs:List Value},(∀ u∈vs,UE A u)→Vals (vs.map toV) vs
 | [],_=> .nil
 | u::r,h=> .cons (VJ (h u (aFh ..))) (oH fun x hx=>h x (aFk _ hx))
def sK(h:Heap)(A:List Addr)(a:Addr):Prop:=∃ vs:List Value,vs.length≤sizeLine∧(∀ u∈vs,UE A u) ∧
 (h.get? a=some {cls:= .type "list",data:= .seq vs.toArray}∨h.get? a=some {cls:= .type "tuple",data:= .seq vs.toArray})
theorem sK.mono{h:Heap}{A B:List Addr}{a:Addr}(k:∀ a∈A,a∈B)(x:sK h A a):sK h B a:=by
 refine aC x fun vs h1 h2 h3=>?_;exact⟨vs,h1,fun u hu=>(h2 u hu).mono k,h3⟩
theorem mX{P:Params}{h:Heap}:∀ {vs:List Value} {ds:List WData},WellAll P h vs ds→vs.length=ds.length
 | _,_,.nil=>rfl
 | _,_,.cons _ b=>by
  show _+1=_+1;rw[mX b]
theorem FZ{P:Params}{h:Heap}{v:Value}{ds:List WData}(x:Well P h v (.list ds)):∃ (a:Addr) (vs:List Value),v= .ref a∧h.get? a=some {cls:= .type "list",data:= .seq vs.toArray}∧WellAll P h vs ds:=by
 cases x with
 | list ho hall=>exact⟨_,_,rfl,ho,hall⟩
theorem BT{P:Params}{h:Heap}{v:Value}{ds:List WData}(x:Well P h v (.tuple ds)):∃ (a:Addr) (vs:List Value),v= .ref a∧h.get? a=some {cls:= .type "tuple",data:= .seq vs.toArray}∧WellAll P h vs ds:=by
 cases x with
 | tuple ho hall=>exact⟨_,_,rfl,ho,hall⟩
theorem F2{P:Params}{h:Heap}{us:List Value}{d:WData}{ds:List WData}(x:WellAll P h us (d::ds)):∃ (v:Value) (vs:List Value),us=v::vs∧Well P h v d∧WellAll P h vs ds:=by
 cases x with
 | cons a b=>exact⟨_,_,rfl,a,b⟩
theorem RE{n:Nat}(h:n≤1048576):n≤sizeLine:=aFt h (by decide)
section
variable{P:Params}{h:Heap}
mutual
theorem XO:∀ (d:WData) (v:Value),Well P h v d→Q0 d=true→d.weight≤1048576→∃ A:List Addr,UE A v∧∀ a∈A,sK h A a
 | .none,_,x,_,_=>by
  cases x;exact⟨[],trivial,fun a m=>absurd m (by simp)⟩
 | .bool b,_,x,_,_=>by
  cases x;exact⟨[],trivial,fun a m=>absurd m (by simp)⟩
 | .int i,_,x,_,_=>by
  cases x;exact⟨[],trivial,fun a m=>absurd m (by simp)⟩
 | .str s,_,x,_,_=>by
  cases x;exact⟨[],trivial,fun a m=>absurd m (by simp)⟩
 | .bytes b,_,x,_,_=>by
  cases x;exact⟨[],trivial,fun a m=>absurd m (by simp)⟩
 | .list ds,_,x,p,z=>by
  (refine aB (FZ x) fun a vs bO ho hall=>?_;subst bO);have z2:WData.weightAll ds≤1048576:=z;refine aA (xR ds _ hall p fun d hd=>aFt (uJ hd) z2) fun A h1 h2=>?_;have k:∀ b∈A,b∈a::A:=fun b hb=>aFk _ hb;refine⟨a::A,aFh ..,fun b hb=>?_⟩;rcases aEZ.mp hb with e | m
  ·rw[e];exact⟨vs,RE (by rw[mX hall];exact aFt (W.length_le_weightAllW ds) z2),fun u hu=>(h1 u hu).mono k,.inl ho⟩
  ·exact(h2 b m).mono k
 | .tuple ds,_,x,p,z=>by
  (refine aB (BT x) fun a vs cA ho hall=>?_;subst cA);have z2:WData.weightAll ds≤1048576:=z;refine aA (xR ds _ hall p fun d hd=>aFt (uJ hd) z2) fun A h1 h2=>?_;have k:∀ b∈A,b∈a::A:=fun b hb=>aFk _ hb;refine⟨a::A,aFh ..,fun b hb=>?_⟩;rcases aEZ.mp hb with e | m
  ·rw[e];exact⟨vs,RE (by rw[mX hall];exact aFt (W.length_le_weightAllW ds) z2),fun u hu=>(h1 u hu).mono k,.inr ho⟩
  ·exact(h2 b m).mono k
 | .float _,_,_,p,_=>Bool.noConfusion (show false=true from p)
 | .dict _,_,_,p,_=>Bool.noConfusion (show false=true from p)
 | .bytearray _,_,_,p,_=>Bool.noConfusion (show false=true from p)
 | .set _,_,_,p,_=>Bool.noConfusion (show false=true from p)
 | .frozenset _,_,_,p,_=>Bool.noConfusion (show false=true from p)
 | .obj _ _,_,_,p,_=>Bool.noConfusion (show false=true from p)
theorem xR:∀ (ds:List WData) (vs:List Value),WellAll P h vs ds→AU ds=true→(∀ d∈ds,d.weight≤1048576)→∃ A:List Addr,(∀ u∈vs,UE A u)∧∀ a∈A,sK h A a
 | [],_,x,_,_=>by
  cases x;exact⟨[],fun u m=>absurd m (by simp),fun a m=>absurd m (by simp)⟩
 | d::ds,_,x,p,z=>by
  (refine aB (F2 x) fun v vs bO x1 x2=>?_;subst bO);have q:Q0 d=true∧AU ds=true:=Bool.and_eq_true_iff.mp p;refine aA (XO d v x1 q.1 (z d (aFh ..))) fun A a1 a2=>?_;refine aA (xR ds vs x2 q.2 fun e he=>z e (aFk _ he)) fun B b1 b2=>?_;have kA:∀ b∈A,b∈A++B:=fun b hb=>List.mem_append.mpr (.inl hb);have kB:∀ b∈B,b∈A++B:=fun b hb=>List.mem_append.mpr (.inr hb);refine⟨A++B,fun u hu=>?_,fun b hb=>?_⟩
  ·rcases aEZ.mp hu with e | m
   ·rw[e];exact a1.mono kA
   ·exact(b1 u m).mono kB
  ·rcases List.mem_append.mp hb with m | m
   ·exact(a2 b m).mono kA
   ·exact(b2 b m).mono kB
end
end
def ZT(o:Obj):Option HO:=match o.data with
 | .seq vs _=>if (o.cls==Value.type "list")=true then some (.HD o (.lst (vs.toList.map toV))) else some (.HD o (.tup (vs.toList.map toV)))
 | _=>none
def mP(K:W.Frag)(h:Heap)(A:List Addr):Hp:=fun b=>if b∈A then (if (K.lookup b).isNone=true then (h.get? b).bind ZT else none) else none
def aDa(H:Hp):Prop:=∀ b,H b=none∨∃ o u,H b=some (.HD o u)
theorem ML(vs:List Value):ZT {cls:= .type "list",data:= .seq vs.toArray}=some (.HD {cls:= .type "list",data:= .seq vs.toArray} (.lst (vs.map toV))):=by
 show (if (Value.type "list"==Value.type "list")=true then some (HO.HD {cls:= .type "list",data:= .seq vs.toArray} (.lst (vs.toArray.toList.map toV))) else some (HO.HD {cls:= .type "list",data:= .seq vs.toArray} (.tup (vs.toArray.toList.map toV))))=_;rw[if_pos (beq_self_eq_true _)]
theorem MK(vs:List Value):ZT {cls:= .type "tuple",data:= .seq vs.toArray}=some (.HD {cls:= .type "tuple",data:= .seq vs.toArray} (.tup (vs.map toV))):=by
 show (if (Value.type "tuple"==Value.type "list")=true then some (HO.HD {cls:= .type "tuple",data:= .seq vs.toArray} (.lst (vs.toArray.toList.map toV))) else some (HO.HD {cls:= .type "tuple",data:= .seq vs.toArray} (.tup (vs.toArray.toList.map toV))))=_;rw[if_neg (by decide)]
section
variable{P:Program}{w:World}{K:W.Frag}{h:Heap}{A:List Addr}
theorem BP{b:Addr}{o:Obj}(hb:b∈A)(hk:K.lookup b=none)(e:h.get? b=some o):mP K h A b=ZT o:=by
 unfold mP;rw[if_pos hb,hk,if_pos (show (none:Option Obj).isNone=true from rfl),e] <;> rfl
theorem Y6{b:Addr}{u:HO}(q:mP K h A b=some u):b∈A∧K.lookup b=none:=by
 unfold mP at q;by_cases hb:b∈A
 ·rw[if_pos hb] at q
  cases hk:K.lookup b with
  | none=>exact⟨hb,rfl⟩
  | some o=>
   rw[hk,if_neg (by simp)] at q;cases q
 ·rw[if_neg hb] at q;cases q
theorem tD(ar:∀ a∈A,sK h A a){b:Addr}{u:HO}(q:mP K h A b=some u):K.lookup b=none∧∃ vs:List Value,vs.length≤sizeLine∧(∀ u∈vs,UE A u) ∧
  ((h.get? b=some {cls:= .type "list",data:= .seq vs.toArray}∧u= .HD {cls:= .type "list",data:= .seq vs.toArray} (.lst (vs.map toV))) ∨
   (h.get? b=some {cls:= .type "tuple",data:= .seq vs.toArray}∧u= .HD {cls:= .type "tuple",data:= .seq vs.toArray} (.tup (vs.map toV)))):=by
 obtain⟨hb,hk⟩:=Y6 q;refine aC (ar b hb) fun vs h1 h2 h3=>?_;refine⟨hk,vs,h1,h2,?_⟩;rcases h3 with e | e
 ·rw[BP hb hk e,ML] at q;exact .inl ⟨e,(aFa q).symm⟩
 ·rw[BP hb hk e,MK] at q;exact .inr ⟨e,(aFa q).symm⟩
theorem UB(ar:∀ a∈A,sK h A a):aDa (mP K h A):=fun b=>by
 cases q:mP K h A b with
 | none=>exact .inl rfl
 | some u=>
  (refine aD (tD ar q) fun _ bO=>?_;refine aC bO fun vs _ _ cA=>?_;obtain⟨_,e⟩ | ⟨_,e⟩:=cA)
  ·exact .inr ⟨_,_,by rw[e]⟩
  ·exact .inr ⟨_,_,by rw[e]⟩
theorem BB{c c':Value}{vs us:List Value}(e:(some {cls:=c,data:= .seq vs.toArray}:Option Obj)=some {cls:=c',data:= .seq us.toArray}):c=c'∧vs=us:=by
 have e1:=aFa e;have e2:c=c':=congrArg Obj.cls e1;have e3:Data.seq vs.toArray=Data.seq us.toArray:=congrArg Obj.data e1;injection e3 with e4
 refine⟨e2,?_⟩;have e5:=congrArg Array.toList e4;simpa using e5
theorem aED(KX:K.In h)(ar:∀ a∈A,sK h A a){a:Addr}{vs:List Value}(ha:a∈A)(e:h.get? a=some {cls:= .type "list",data:= .seq vs.toArray}):(∀ u∈vs,UE A u)∧cT K (mP K h A) a (vs.map toV):=by
 refine aC (ar a ha) fun us h1 h2 h3=>?_;have hu:us=vs:=by
  rcases h3 with q | q
  ·rw[e] at q;exact(BB q).2.symm
  ·rw[e] at q;exact absurd (Value.type.inj (BB q).1) (by decide)
 subst hu;refine⟨h2,?_⟩
 cases hk:K.lookup a with
 | none=>exact .inl (.inr ⟨_,by rw[BP ha hk e,ML]⟩)
 | some o=>
  have e2:=KX a o hk;rw[e] at e2;obtain rfl:=aFa e2;exact .inr ⟨_,us.toArray,_,hk,rfl,rfl,rfl,by rw[aFo];exact h1,by simpa using oH h2⟩
theorem aEC(KX:K.In h)(ar:∀ a∈A,sK h A a){a:Addr}{vs:List Value}(ha:a∈A)(e:h.get? a=some {cls:= .type "tuple",data:= .seq vs.toArray}):(∀ u∈vs,UE A u)∧gF K (mP K h A) a (vs.map toV):=by
 refine aC (ar a ha) fun us h1 h2 h3=>?_;have hu:us=vs:=by
  rcases h3 with q | q
  ·rw[e] at q;exact absurd (Value.type.inj (BB q).1) (by decide)
  ·rw[e] at q;exact(BB q).2.symm
 subst hu;refine⟨h2,?_⟩
 cases hk:K.lookup a with
 | none=>exact .inl (.inr ⟨_,by rw[BP ha hk e,MK]⟩)
 | some o=>
  have e2:=KX a o hk;rw[e] at e2;obtain rfl:=aFa e2;exact .inr ⟨_,us.toArray,_,hk,rfl,rfl,by rw[aFo];exact h1,by simpa using oH h2⟩
mutual
theorem aBI{Pm:Params}(KX:K.In h)(ar:∀ a∈A,sK h A a):∀ (d:WData) (v:Value),Well Pm h v d→Q0 d=true→UE A v→Dw K (mP K h A) (toV v) d
 | .none,_,x,_,_=>by
  cases x;exact .non
 | .bool b,_,x,_,_=>by
  cases x;exact .bl b
 | .int i,_,x,_,_=>by
  cases x;exact .int i
 | .str s,_,x,_,_=>by
  cases x;exact .str s
 | .bytes b,_,x,_,_=>by
  cases x;have z:=Dw.T9 (K:=K) (H:=mP K h A) b.toArray;exact z
 | .list ds,_,x,p,hu=>by
  (refine aB (FZ x) fun a vs bO ho hall=>?_;subst bO);obtain⟨h2,hs⟩:=aED KX ar hu ho;exact .lst hs (JQ KX ar ds _ hall p h2)
 | .tuple ds,_,x,p,hu=>by
  (refine aB (BT x) fun a vs cA ho hall=>?_;subst cA);obtain⟨h2,hs⟩:=aEC KX ar hu ho;exact .tup hs (JQ KX ar ds _ hall p h2)
 | .float _,_,_,p,_=>Bool.noConfusion (show false=true from p)
 | .dict _,_,_,p,_=>Bool.noConfusion (show false=true from p)
 | .bytearray _,_,_,p,_=>Bool.noConfusion (show false=true from p)
 | .set _,_,_,p,_=>Bool.noConfusion (show false=true from p)
 | .frozenset _,_,_,p,_=>Bool.noConfusion (show false=true from p)
 | .obj _ _,_,_,p,_=>Bool.noConfusion (show false=true from p)
theorem JQ{Pm:Params}(KX:K.In h)(ar:∀ a∈A,sK h A a):∀ (ds:List WData) (vs:List Value),WellAll Pm h vs ds→AU ds=true→(∀ u∈vs,UE A u)→pD K (mP K h A) (vs.map toV) ds
 | [],_,x,_,_=>by
  cases x;exact .nil
 | d::ds,_,x,p,hu=>by
  (refine aB (F2 x) fun v vs bO x1 x2=>?_;subst bO);have q:Q0 d=true∧AU ds=true:=Bool.and_eq_true_iff.mp p;exact .cons (aBI KX ar d v x1 q.1 (hu _ (aFh ..))) (JQ KX ar ds vs x2 q.2 fun u m=>hu u (aFk _ m))
end
end
theorem DX{ds:List WData}(h:WData.layableAll ds=true):∀ d∈ds,d.weight≤1048576:=fun d hd=>
 (W.layableW_iff.mp (aFM.mp h d hd)).2.2
theorem EG:∀ (cs:List Codec) (a:Codec.denoteAll cs),(Codec.encAll cs a).length=cs.length
 | [],_=>rfl
 | c::cs,a=>by
  show (Codec.encAll cs a.2).length+1=cs.length+1;rw[EG cs a.2]
end L2
namespace SD
open PySem PySem.Spec PyProof.Rows L2
open PySem.W (WData Codec OpenSpec Well WellAll ReadsW ReadsAllW)
theorem qVs{i:Nat}{x:Option V}{σ:L2.St}{H:Hp}{Q:VK}:NY (i+1) (x::σ) H Q=NY i σ H Q:=rfl
theorem qVz{x:V}{σ:L2.St}{H:Hp}{Q:VK}:NY 0 (some x::σ) H Q=Q x H:=propext ⟨by rintro⟨_,e,q⟩;injection e with e;injection e with e;exact e ▸ q,fun q=>⟨_,rfl,q⟩⟩
theorem aCr{i:Nat}{te:TE}{ti:TIp}{D:Ends}{σ:L2.St}{H:Hp}:aAH i te ti D σ H=NY i σ H fun x _=>te σ H fun y H1=>ti x y H1 fun z H2=>D.nx (σ.set i (some z)) H2:=rfl
inductive i1(x:V)(k:Int→Prop):Prop | mk (i:Int) (_:x= .int i) (_:k i):i1 x k
inductive b1(x:V)(k:Bool→Prop):Prop | mk (i:Bool) (_:x= .bl i) (_:k i):b1 x k
inductive r1(x:V)(k:Addr→Prop):Prop | mk (i:Addr) (_:x= .ref i) (_:k i):r1 x k
theorem qi1{i:Int}{k:Int→Prop}:i1 (.int i) k=k i:=propext ⟨by rintro⟨_,e,q⟩;injection e with e;exact e ▸ q,fun q=>⟨_,rfl,q⟩⟩
theorem qb1{i:Bool}{k:Bool→Prop}:b1 (.bl i) k=k i:=propext ⟨by rintro⟨_,e,q⟩;injection e with e;exact e ▸ q,fun q=>⟨_,rfl,q⟩⟩
theorem qr1{i:Addr}{k:Addr→Prop}:r1 (.ref i) k=k i:=propext ⟨by rintro⟨_,e,q⟩;injection e with e;exact e ▸ q,fun q=>⟨_,rfl,q⟩⟩
theorem qi{x:V}{k:Int→Prop}:(∃ i,x= .int i∧k i)=i1 x k:=propext ⟨by rintro⟨i,e,h⟩;exact⟨i,e,h⟩,by rintro⟨i,e,h⟩;exact⟨i,e,h⟩⟩
theorem qb{x:V}{k:Bool→Prop}:(∃ i,x= .bl i∧k i)=b1 x k:=propext ⟨by rintro⟨i,e,h⟩;exact⟨i,e,h⟩,by rintro⟨i,e,h⟩;exact⟨i,e,h⟩⟩
theorem qii{x y:V}{k:Int→Int→Prop}:(∃ i j,x= .int i∧y= .int j∧k i j)=i1 x fun i=>i1 y fun j=>k i j:=propext ⟨by rintro⟨i,j,e,f,h⟩;exact⟨i,e,j,f,h⟩,by rintro⟨i,e,j,f,h⟩;exact⟨i,j,e,f,h⟩⟩
theorem qI0{g:Int→Int→V}{x y:V}{H:Hp}{Q:VK}:UN g x y H Q=i1 x fun i=>i1 y fun j=>Q (g i j) H:=qii
theorem qI{C:Int→Int→Prop}{g:Int→Int→V}{x y:V}{H:Hp}{Q:VK}:rI C g x y H Q=i1 x fun i=>i1 y fun j=>C i j∧Q (g i j) H:=qii
theorem qip{g:Int→Int→Int}{x y:V}{H:Hp}{Q:VK}:ipI g x y H Q=i1 x fun i=>i1 y fun j=>Q (.int (g i j)) H:=qii
theorem aCt{x y:V}{H:Hp}{Q:VK}:aBa x y H Q=i1 x fun i=>i1 y fun j=>Q (.int (i+j)) H:=qii
theorem qU{g:Int→V}{x:V}{H:Hp}{Q:VK}:rU g x H Q=i1 x fun i=>Q (g i) H:=qi
theorem q2I{ta tb:TE}{k:Int→Int→Hp→Prop}{σ:L2.St}{H:Hp}:t2I ta tb k σ H=ta σ H fun x H1=>tb σ H1 fun y H2=>i1 x fun i=>i1 y fun j=>k i j H2:=congrArg (ta σ H) (funext fun _=>funext fun _=>congrArg (tb σ _) (funext fun _=>funext fun _=>qii))
theorem qB{t:TE}{σ:L2.St}{H:Hp}{Q:Bool→Hp→Prop}:tB t σ H Q=t σ H fun x H1=>b1 x fun c=>Q c H1:=congrArg (t σ H) (funext fun _=>funext fun _=>qb)
theorem aAn{t:TE}{σ:L2.St}{H:Hp}{Q:Bool→Hp→Prop}:U1 t σ H Q=t σ H fun x H1=>b1 x fun c=>Q c H1:=congrArg (t σ H) (funext fun _=>funext fun _=>qb)
theorem aAp{t:TE}{σ:L2.St}{H:Hp}{Q:Option Int→Hp→Prop}:QN t σ H Q=t σ H fun x H1=>i1 x fun c=>Q (some c) H1:=congrArg (t σ H) (funext fun _=>funext fun _=>qi)
theorem qmc{α β:Type}{f:α→β}{a:α}{l:List α}:(a::l).map f=f a::l.map f:=rfl
theorem qmn{α β:Type}{f:α→β}:([]:List α).map f=[]:=rfl
theorem qIx{K:W.Frag}{x y:V}{H:Hp}{Q:VK}:VL K x y H Q=r1 x fun p=>i1 y fun i=>∃ xs,cT K H p xs∧∃ v,NN xs i=some v∧Q v H:=propext ⟨by rintro⟨p,xs,i,v,a,b,c,d,e⟩;exact⟨p,a,i,b,xs,c,v,d,e⟩,by rintro⟨p,a,i,b,xs,c,v,d,e⟩;exact⟨p,xs,i,v,a,b,c,d,e⟩⟩
theorem aCp{K:W.Frag}{x y:V}{H:Hp}{Q:VK}:YS K x y H Q=r1 x fun p=>i1 y fun i=>∃ xs,gF K H p xs∧∃ v,NN xs i=some v∧Q v H:=propext ⟨by rintro⟨p,xs,i,v,a,b,c,d,e⟩;exact⟨p,a,i,b,xs,c,v,d,e⟩,by rintro⟨p,a,i,b,xs,c,v,d,e⟩;exact⟨p,xs,i,v,a,b,c,d,e⟩⟩
theorem aAo{o i v:V}{H:Hp}{Q:Hp→Prop}:QZ o i v H Q=r1 o fun p=>i1 i fun k=>∃ xs,H p=some (.lst xs)∧∃ j,RM xs.length k=some j∧Q (upd H p (.lst (xs.set j v))):=propext ⟨by rintro⟨p,xs,i,v,a,b,c,d,e⟩;exact⟨p,a,i,b,xs,c,v,d,e⟩,by rintro⟨p,a,i,b,xs,c,v,d,e⟩;exact⟨p,xs,i,v,a,b,c,d,e⟩⟩
theorem VM{C:Addr}{m:Str}{sp:Sp}{xK:List V}{E:XK}{ta:TE}{t:TA}{σ:L2.St}{H:Hp}{Q:VK}:zQ C m sp xK E ta t σ H Q=ta σ H fun x H1=>r1 x fun a=>∃ dx fs,H1 a=some (.ins C dx fs)∧fs.lookup m=none∧t σ H1 fun vs H2=>sp (x::(vs++xK)) H2 Q E:=congrArg (ta σ H) (funext fun _=>funext fun _=>propext ⟨by rintro⟨a,dx,fs,e,h⟩;exact⟨a,e,dx,fs,h⟩,by rintro⟨a,e,dx,fs,h⟩;exact⟨a,dx,fs,e,h⟩⟩)
theorem aCs{l:Addr}{y:V}{H:Hp}{Q:VK}:BC (.ref l) [y] H Q=∃ xs,H l=some (.lst xs)∧xs.length<sizeLine∧Q .non (upd H l (.lst (xs++[y]))):=propext ⟨by rintro⟨l,xs,y,e,f,h⟩;injection e with e;subst e;injection f with f;subst f;exact⟨xs,h⟩,by rintro⟨xs,h⟩;exact⟨_,xs,_,rfl,rfl,h⟩⟩
theorem aCq{l b:Addr}{H:Hp}{Q:VK}:YU (.ref l) (.ref b) H Q=∃ xs,H l=some (.lst xs)∧∃ zs,H b=some (.lst zs)∧xs.length+zs.length≤sizeLine∧∀ p,H p=none→Q (.ref p) (upd H p (.lst (xs++zs))):=propext ⟨by rintro⟨l,b,xs,zs,e,f,h,g⟩;injection e with e;subst e;injection f with f;subst f;exact⟨xs,h,zs,g⟩,by rintro⟨xs,h,zs,g⟩;exact⟨_,_,xs,zs,rfl,rfl,h,g⟩⟩
theorem qSl{K:W.Frag}{a:Addr}{lo hi:Option Int}{H:Hp}{Q:VK}:YR K (.ref a) lo hi H Q=∃ xs,cT K H a xs∧∀ p,H p=none→Q (.ref p) (upd H p (.lst (mN xs lo hi))):=propext ⟨by rintro⟨a,xs,e,h⟩;injection e with e;subst e;exact⟨xs,h⟩,by rintro⟨xs,h⟩;exact⟨_,xs,rfl,h⟩⟩
def HV(R:L2.St→Hp→Prop)(u:TS)(D:Ends):Prop:=∀ σ H,u D σ H→R σ H
theorem HV.go{R:L2.St→Hp→Prop}{u:TS}{D:Ends}{σ:L2.St}{H:Hp}(n:HV R u D)(h:u D σ H):R σ H:=n σ H h
theorem aDF{t u:TS}{D:Ends}{σ:L2.St}{H:Hp}(h:∀ R,HV R u D→t {D with nx:=R} σ H):qC t u D σ H:=h _ fun _ _=>id
theorem cxK(CX:QI)(P:Program)(w:World)(K:W.Frag)(mg:Str→Option Value)(base:Heap)(N:List Str)(q:Str)(sc:Scope)(f:Addr)(cd:Value)(A:Around)(outer:List Env)(s:Shared)(H:Hp)(E:XK):(A4 CX P w K mg base N q sc f cd A outer s H E).K=K:=rfl
theorem cxN(CX:QI)(P:Program)(w:World)(K:W.Frag)(mg:Str→Option Value)(base:Heap)(N:List Str)(q:Str)(sc:Scope)(f:Addr)(cd:Value)(A:Around)(outer:List Env)(s:Shared)(H:Hp)(E:XK):(A4 CX P w K mg base N q sc f cd A outer s H E).X0.K=K:=rfl
theorem TD{α:Type}{P:List α→Prop}{n:Nat}(h:∀ a us,us.length=n→P (a::us))(us:List α)(e:us.length=n+1):P us:=by
 cases us with
 | nil=>cases e
 | cons a r=>exact h a r (Nat.succ.inj e)
theorem len1{α:Type}{P:List α→Prop}(h:∀ a,P [a]):∀ us:List α,us.length=1→P us:=TD fun a us e=>by rw[List.length_eq_zero_iff.mp e];exact h a
theorem len2{α:Type}{P:List α→Prop}(h:∀ a b,P [a,b]):∀ us:List α,us.length=2→P us:=TD fun a=>len1 (P:=fun r=>P (a::r)) (h a)
theorem aBp{α:Type}{P:List α→Prop}(h:∀ a b c,P [a,b,c]):∀ us:List α,us.length=3→P us:=TD fun a=>len2 (P:=fun r=>P (a::r)) (h a)
theorem ZH{α:Type}{P:List α→Prop}(h:∀ a b c d,P [a,b,c,d]):∀ us:List α,us.length=4→P us:=TD fun a=>aBp (P:=fun r=>P (a::r)) (h a)
theorem aBo{α:Type}{P:List α→Prop}(h:∀ a b c d e,P [a,b,c,d,e]):∀ us:List α,us.length=5→P us:=TD fun a=>ZH (P:=fun r=>P (a::r)) (h a)
theorem aDU{α:Type}{P:List α→Prop}(h:∀ a b c d e f,P [a,b,c,d,e,f]):∀ us:List α,us.length=6→P us:=TD fun a=>aBo (P:=fun r=>P (a::r)) (h a)
theorem ex4{α:Type}{us:List α}:us.length=4→∃ a b c d,us=[a,b,c,d]:=ZH (P:=fun us=>∃ a b c d,us=[a,b,c,d]) (fun a b c d=>⟨a,b,c,d,rfl⟩) us
theorem ex5{α:Type}{us:List α}:us.length=5→∃ a b c d e,us=[a,b,c,d,e]:=aBo (P:=fun us=>∃ a b c d e,us=[a,b,c,d,e]) (fun a b c d e=>⟨a,b,c,d,e,rfl⟩) us
section
variable{n b c:L2.St→Hp→Prop}{q:VK}{σ:L2.St}{H:Hp}
theorem aDE{t u:TS}(h:∀ R,HV R u ⟨n,q,b,c⟩→t ⟨R,q,b,c⟩ σ H):qC t u ⟨n,q,b,c⟩ σ H:=h _ fun _ _=>id
theorem sq3{t1 t2 t3:TS}(h:∀ R1 R2,HV R2 t3 ⟨n,q,b,c⟩→HV R1 t2 ⟨R2,q,b,c⟩→t1 ⟨R1,q,b,c⟩ σ H):qC t1 (qC t2 t3) ⟨n,q,b,c⟩ σ H:=h _ _ (fun _ _=>id) (fun _ _=>id)
theorem sq4{t1 t2 t3 t4:TS}(h:∀ R1 R2 R3,HV R3 t4 ⟨n,q,b,c⟩→HV R2 t3 ⟨R3,q,b,c⟩→HV R1 t2 ⟨R2,q,b,c⟩→t1 ⟨R1,q,b,c⟩ σ H):qC t1 (qC t2 (qC t3 t4)) ⟨n,q,b,c⟩ σ H:=h _ _ _ (fun _ _=>id) (fun _ _=>id) (fun _ _=>id)
theorem sq5{t1 t2 t3 t4 t5:TS}(h:∀ R1 R2 R3 R4,HV R4 t5 ⟨n,q,b,c⟩→HV R3 t4 ⟨R4,q,b,c⟩→HV R2 t3 ⟨R3,q,b,c⟩→HV R1 t2 ⟨R2,q,b,c⟩→t1 ⟨R1,q,b,c⟩ σ H):qC t1 (qC t2 (qC t3 (qC t4 t5))) ⟨n,q,b,c⟩ σ H:=h _ _ _ _ (fun _ _=>id) (fun _ _=>id) (fun _ _=>id) (fun _ _=>id)
theorem sq6{t1 t2 t3 t4 t5 t6:TS}(h:∀ R1 R2 R3 R4 R5,HV R5 t6 ⟨n,q,b,c⟩→HV R4 t5 ⟨R5,q,b,c⟩→HV R3 t4 ⟨R4,q,b,c⟩→HV R2 t3 ⟨R3,q,b,c⟩→HV R1 t2 ⟨R2,q,b,c⟩→t1 ⟨R1,q,b,c⟩ σ H):qC t1 (qC t2 (qC t3 (qC t4 (qC t5 t6)))) ⟨n,q,b,c⟩ σ H:=h _ _ _ _ _ (fun _ _=>id) (fun _ _=>id) (fun _ _=>id) (fun _ _=>id) (fun _ _=>id)
end
def fsB(N P:List Str)(sc:Scope):Bool:=decide (sc.kind= .function∧sc.isCoroutine=false∧sc.isGenerator=false∧N.Nodup∧N.take P.length=P∧(∀ x∈P,sc.names.lookup x=some .local∨sc.names.lookup x=some .cell)∧∀ y∈sc.names,y.2≠.free)
theorem bV{N P:List Str}{sc:Scope}(h:fsB N P sc=true):bJ N P sc:=let ⟨a,b,c,d,e,f,g⟩:=aFf h;⟨a,b,c,d,e,f,g⟩
def top(i:Nat):Stmt:=PySem.Challenge.pw_shortrowsdesk_s01_answers.main.body.getD i (.Pass ⟨0,0,0,0⟩)
def GI(mg:Str→Option Value)(x:Str)(i:Int):Prop:=∃ t,mg x=some (.int i t)
theorem cH{X:Cx}{x:Str}{i:Int}{pos:Pos}(hg:Gl X x)(h:GI X.mg x i)(hd:(x==("__debug__":Str))=false:=by decide):PE X (.Name x pos) (tC (.int i)):=by
 obtain⟨t,h⟩:=h;exact Q4 hg h ⟨t,rfl⟩ hd
def Def(K:W.Frag)(mg:Str→Option Value)(x:Str)(st:Stmt)(ps:List Str):Prop:=∃ f fd,mg x=some (.ref f)∧Fun K x x st f fd∧Binds K fd ps []
def Own(P:Program)(w:World)(K:W.Frag)(mg:Str→Option Value)(base:Heap)(x:Str)(ps:List Str)(k:Nat)(sp:Sp):Prop:=
 ∃ f fd,mg x=some (.ref f)∧W.keepIn K (.ref f)=true∧Binds K fd ps []∧mU P w K mg base R9 k f fd ps sp
section
variable{P:Program}{w:World}{K:W.Frag}{mg:Str→Option Value}{base:Heap}
theorem Def.own{x:Str}{st:Stmt}{N ps:List Str}{k:Nat}{sp:Sp}(D:Def K mg x st ps)(S:bJ N ps (bC st))(len:∀ vs H Q E,sp vs H Q E→vs.length=ps.length)
  (hbody:∀ (f:Addr) (cdv:Value) (A:Around) (outer:List Env) (s:Shared) (H:Hp) (vs:List V) (Q:VK) (E:XK),f8 k (A.deeper (envOfC x (bC st) s.heap.objs.size f cdv))→sp vs H Q E →
   ∃ t,MZ (A4 R9 P w K mg base N x (bC st) f cdv A outer s H E).X0 (cX st) t∧t {nx:=fun _ H'=>Q .non H',rt:=Q} (L2.start N vs) H):Own P w K mg base x ps (k+1) sp:=by
 refine aB D fun f fd hm F b=>?_;exact⟨f,fd,hm,F.kp,b,F.ok S len (hbody f)⟩
theorem Own.mono{x:Str}{ps:List Str}{j k:Nat}{sp:Sp}(O:Own P w K mg base x ps j sp)(h:j≤k):Own P w K mg base x ps k sp:=by
 refine aN O fun f fd hm kp b G=>?_;exact⟨f,fd,hm,kp,b,G.mono h⟩
theorem Own.imp{x:Str}{ps:List Str}{k:Nat}{sp sp':Sp}(O:Own P w K mg base x ps k sp)(h:∀ vs H Q E,sp' vs H Q E→sp vs H Q E):Own P w K mg base x ps k sp':=by
 refine aN O fun f fd hm kp b G=>?_;exact⟨f,fd,hm,kp,b,G.imp h⟩
end
theorem bN{X:Cx}{x:Str}{ps:List Str}{j k:Nat}{sp:Sp}{e:Expr}{es:List Expr}{t:TA}{p pos:Pos}(O:Own X.prog X.w X.K X.mg X.base x ps j sp)(hr:f8 k X.A)(hjk:j≤k)(hg:Gl X x)(ha:PA X (e::es) t)
  (hdb:(x==("__debug__":Str))=false:=by decide) (he:starEach (e::es) X.env=(false,eval e X.env)::starEach es X.env:=by rfl) (hpl:(backTo pos (starEach es X.env)).any (·.1)=false:=by rfl):
  PE X (.Call (.Name x p) (e::es) [] pos) (U6 sp [] E0 t):=by
 refine aN O fun f fd hm kp b G=>?_;exact YY G (hr.mono hjk) hg hm kp b .nil GU ha hdb he hpl
theorem S7{X:Cx}:MtR X "int.bit_length" (fun x xs H Q=>∃ i,x= .int i∧xs=[]∧Q (.int (Builtin.Int.intBits i)) H):=by
 intro pins s σ H x xs v us Q I rx rv h;(refine aC h fun i bO cA q=>?_;subst bO;subst cA);obtain⟨t,rfl⟩:=rx;cases rv;exact call_int_bit_length ⟨.int _,H,I.tok _,⟨_,rfl⟩,q⟩
theorem GT{X:Cx}{o:Expr}{to:TE}{apos cpos:Pos}(ho:PE X o to)(hbase:attributeBase o "bit_length" X.env (eval o X.env)=eval o X.env:=by rfl)(hline:(apos.endLine==cpos.line)=true:=by rfl):
  PE X (.Call (.Attribute o "bit_length" apos) [] [] cpos) (aAG X.K "int" (fun x xs H Q=>∃ i,x= .int i∧xs=[]∧Q (.int (Builtin.Int.intBits i)) H) to):=
 rH PySem.F.plainAttrs_int slot_int_bit_length type_int_bit_length S7 ho hbase hline
def aDA(t:TS):TS:=fun D σ H=>∃ M:L2.St→Hp→Prop,t {D with nx:=M} σ H∧∀ σ' H',M σ' H'→D.nx σ' H'
theorem dG{X:Cx}{st:Stmt}{t:TS}(h:PS X st t):PS X st (aDA t):=by
 intro pins s σ H D I q;refine aA q fun M h1 h2=>?_;refine eR (h pins s σ H {D with nx:=M} I h1) fun f s1 q=>?_
 cases f with
 | next=>
  refine aH q fun σ' H' I' q=>?_;exact⟨σ',H',I',h2 _ _ q⟩
 | brk=>exact q
 | cont=>exact q
 | ret u=>exact q
def aCS(N:List Str)(sc scope:Scope)(own:List (Str×Nat)):Bool:=
 decide (scope.kind= .function)&&scope.names.all (fun y=>decide (scope.names.lookup y.1=some y.2))&&own.all (fun p=>decide (N[p.2]?=some p.1)) &&
 scope.names.all (fun y=> !decide (y.2= .free)||decide (sc.names.lookup y.1=some .cell)||decide (sc.names.lookup y.1=some .free)) &&
 scope.names.all (fun y=> !decide (y.2= .local∨y.2= .cell)||decide (y.1∈own.map (·.1))||decide (y.1∉N))
theorem oB{N:List Str}{sc scope:Scope}{own:List (Str×Nat)}(h:aCS N sc scope own=true):NM N sc scope own:=by
 unfold aCS at h;rw[aFg,aFg,aFg,aFg] at h;obtain⟨⟨⟨⟨h1,h2⟩,h3⟩,h4⟩,h5⟩:=h;refine⟨aFf h1,fun y hy=>aFf (aFM.mp h2 y hy),fun p hp=>aFf (aFM.mp h3 p hp),fun y hy e=>?_,fun y hy e=>?_⟩
 ·have q:=aFM.mp h4 y hy;rw[aFc e,Bool.not_true,Bool.false_or,aFU,decide_eq_true_iff,decide_eq_true_iff] at q;exact q
 ·have q:=aFM.mp h5 y hy;rw[aFc e,Bool.not_true,Bool.false_or,aFU,decide_eq_true_iff,decide_eq_true_iff] at q;exact q
theorem D6{X:Cx}{s:Shared}{H:Hp}{scope:Scope}{cenv:Env}{fp:List Addr}:IxR (X.blk s H scope cenv fp) (VL X.K):=bZ
theorem P7(x y:Nat):Builtin.bitAnd (x:Int) (y:Int)=((x &&& y:Nat):Int):=by
 rw[bitAnd_pp (by lia) (by lia),aFl,aFl]
theorem bOr(x y:Nat):Builtin.bitOr (x:Int) (y:Int)=((x ||| y:Nat):Int):=by
 rw[Bits.XM (by lia) (by lia),aFl,aFl]
theorem aBQ(x y:Nat):Builtin.bitXor (x:Int) (y:Int)=((x ^^^ y:Nat):Int):=by
 rw[Bits.UA (by lia) (by lia),aFl,aFl]
theorem aAi(x:Nat):Builtin.bitAnd (x:Int) (Builtin.bitOr 2139095040 8388607)=((x % 2147483648:Nat):Int):=by
 rw[show Builtin.bitOr 2139095040 8388607=((2147483647:Nat):Int) from by decide,P7];have h:=aFS x 31;rw[show (2:Nat) ^ 31-1=2147483647 from rfl,show (2:Nat) ^ 31=2147483648 from rfl] at h;rw[h]
theorem X6(x:Nat):Builtin.bitAnd (x:Int) 2139095040=((x / 8388608 % 256*8388608:Nat):Int):=by
 rw[show (2139095040:Int)=((255*2 ^ 23:Nat):Int) from by decide,P7,BM.zH];have h:=aFS (x / 2 ^ 23) 8;rw[show (2:Nat) ^ 8-1=255 from rfl,show (2:Nat) ^ 8=256 from rfl] at h;rw[h]
theorem yA(x:Nat):Builtin.bitAnd (x:Int) 2147483648=((x / 2147483648 % 2*2147483648:Nat):Int):=by
 rw[show (2147483648:Int)=((2 ^ 31:Nat):Int) from by decide,P7,BM.J0]
theorem NQ(x:Nat):Builtin.bitAnd (x:Int) 255=((x % 256:Nat):Int):=by
 rw[show (255:Int)=((255:Nat):Int) from rfl,P7];have h:=aFS x 8;rw[show (2:Nat) ^ 8-1=255 from rfl,show (2:Nat) ^ 8=256 from rfl] at h;rw[h]
theorem X7(x:Nat):Builtin.bitAnd (x:Int) 8388607=((x % 8388608:Nat):Int):=by
 rw[show (8388607:Int)=((8388607:Nat):Int) from rfl,P7];have h:=aFS x 23;rw[show (2:Nat) ^ 23-1=8388607 from rfl,show (2:Nat) ^ 23=8388608 from rfl] at h;rw[h]
theorem UT(x:Nat):Builtin.bitAnd (x:Int) 127=((x % 128:Nat):Int):=by
 rw[show (127:Int)=((127:Nat):Int) from rfl,P7];have h:=aFS x 7;rw[show (2:Nat) ^ 7-1=127 from rfl,show (2:Nat) ^ 7=128 from rfl] at h;rw[h]
theorem OP{x:Nat}(k:Nat)(h:x<2 ^ k):x ||| 2 ^ k=x+2 ^ k:=by
 rw[BM.OQ,Nat.div_eq_of_lt h];rfl
def bD:List Lean.Name:=[`VM,`qVs,`qVz,`aCr,`qi1,`qb1,`qr1,`qI0,`qI,`qip,`aCt,`qU,`q2I,`qB,`aAn,`aAp,`qIx,`aCp,`aAo,`aCs,`aCq,`qSl,`HZ,`IL,`B0,`NZ,`HY]
def bP:List Lean.Name:=[`tLt,`tGt,`tGe,`aCh,`aCd,`VM,`qVs,`qVz,`aCr,`qi1,`qb1,`qr1,`qI0,`qI,`qip,`aCt,`qU,`q2I,`qB,`aAn,`aAp,`qIx,`aCp,`aAo,`aCs,`aCq,`qSl,`qmc,`qmn]
def bL:List Lean.Name:=[`aCb,`aCa,`aAk,`aAj,`qC,`aCf,`YF,`MP,`aBF,`QZ,`aAH,`ipI,`tOp,`tUn,`NY,`tC,`UN,`rI,`rU,`VL,`YS,`aAZ,`t2I,`N2,`tB,`U1,`aCi,`tOr,`aCc,`tIf,`U6,`SN,`aAl,`tCB,`aAG,`tBM,`BC,`aBZ,`aCe,`HZ,`IL,`IM,`B0,`cxK,`aBa,`YU,`wipe,`aAB,`N3,`NZ,`HY,`WR,`WQ,`WP,`WS,`aBD,`tSl,`QN,`HX,`YR,`aAY,`N0,`U4,`N4,`zR,`U7,`aAD,`U2,`aAF,`U3,`Bool.not_eq_true',`reduceIte,`Bool.false_eq_true,`if_true,`if_false,`ite_true,`ite_false,`L2.start,`List.length_cons,`List.length_nil,`Nat.zero_add,`Nat.sub_self,`Nat.reduceAdd,`Nat.reduceSub,`List.replicate,`List.append_nil,`List.cons_append,`List.nil_append,`List.set_cons_zero,`List.set_cons_succ,`List.getElem?_cons_zero,`List.getElem?_cons_succ,`V.int.injEq,`V.bl.injEq,`V.ref.injEq,`Option.some.injEq,`List.cons.injEq,`exists_and_left,`exists_eq_left',`exists_eq_left,`true_and,`and_true,`Int.reduceToNat,`Int.reducePow,`IA,`aAE,`N5,`YM,`U5,`zQ]
def bS:List Lean.Name:=[`cxK,`cxN,`L2.start,`qmc,`qmn,`List.length_cons,`List.length_nil,`Nat.zero_add,`Nat.reduceAdd,`Nat.reduceSub,`Nat.sub_self,`List.replicate,`List.cons_append,`List.nil_append,`List.append_nil]
def dL0:List Lean.Name:=[`aBF,`QZ,`VL,`YS,`aAZ,`tBM,`BC,`V.ref.injEq]
def dL1:List Lean.Name:=[`HZ,`B0,`cxK,`aAY,`N0,`U7,`aAD,`U2,`aAF,`U3]
def P2:List Lean.Name:=[`IL]
def dL3:List Lean.Name:=[`IM,`aBa]
def dL4:List Lean.Name:=[`YU]
def dL5:List Lean.Name:=[`wipe,`aAB,`N3,`tSl,`QN,`HX,`YR]
def RX:List Lean.Name:=[`NZ,`HY,`WR,`WQ,`WP,`WS,`aBD]
def mV:List Lean.Name:=[`U4,`N4]
def mL:List Lean.Name:=[`zR]
def lK:List Lean.Name:=[`IA,`aAE]
def eS:List Lean.Name:=[`N5]
def fO:List Lean.Name:=[`YM]
def eM:List Lean.Name:=[`VM,`U5,`zQ]
def sA(l:List Lean.Name):Lean.MacroM (Lean.TSyntax `tactic):=do
 let x ←l.toArray.mapM fun n=>if bD.contains n then `(Lean.Parser.Tactic.simpLemma| ↓$(Lean.mkIdent n):term) else `(Lean.Parser.Tactic.simpLemma| $(Lean.mkIdent n):term)
 `(tactic| simp only[$x,*])
def sm(z:Bool)(f d:List Lean.Name):Lean.MacroM (Lean.TSyntax `tactic):=do
 let s ←sA (((bP.filter fun x=> !d.contains x))++f++bL.filter fun x=> !d.contains x)
 let c ←sA bS
 let g ←`(tactic| (first | (with_reducible refine sq6 fun _ _ _ _ _ _ _ _ _ _=>?_) | (with_reducible refine sq5 fun _ _ _ _ _ _ _ _=>?_) | (with_reducible refine sq4 fun _ _ _ _ _ _=>?_) | (with_reducible refine sq3 fun _ _ _ _=>?_) | (with_reducible refine aDE fun _ _=>?_) | (with_reducible refine aDF fun _ _=>?_) | skip))
 if z then `(tactic| ((try (refine HV.go (by assumption) ?_));(try $c:tactic);$g:tactic;(try $s:tactic);repeat ((refine HV.go (by assumption) ?_);$g:tactic;$s:tactic)))
 else `(tactic| ((try $c:tactic);try $s:tactic))
def ZZ:List Lean.Name:=[`F.net,`F.below,`F.place,`F.win,`F.w,`F.aside,`F.loops,`F.times,`F.layers,`F.dn,`F.need,`F.ended,`F.JH,`F.PF,`F.PD]
def PX:List Lean.Name:=[`F.S,`F.first,`F.width,`F.nets,`F.ME]
def W5:List Lean.Name:=[`E.place,`E.net,`E.number,`E.widths,`E.loops]
def ZY:List Lean.Name:=[`Y.place,`Y.byte,`Y.wb,`Y.wn,`Y.ab,`Y.numbers,`Y.columns,`Y.singles]
def fL4:List Lean.Name:=[`F]
def fL5:List Lean.Name:=[`Z.net,`Z.below,`Z.place,`Z.win,`Z.w,`Z.aside,`Z.loops,`Z.times,`Z.layers,`Z.dn,`Z.need,`Z.ended]
def fL6:List Lean.Name:=[`Y.net,`Y.below,`Y.place,`Y.win,`Y.w,`Y.aside,`Y.loops,`Y.times,`Y.layers,`Y.dn,`Y.need,`Y.ended]
local macro_rules | `(tactic| walk_at"0")=>sm false ([]) (dL0++dL1++P2++dL3++dL4++dL5++RX++mV++mL++lK++eS++fO++eM)
structure Txt(K:W.Frag)(mg:Str→Option Value):Prop where
 SIGN:GI mg "SIGN" 2147483648
 INFINITE:GI mg "INFINITE" 2139095040
 BIT_22:GI mg "BIT_22" 4194304
 LEAST:GI mg "LEAST" 8388608
 FRACTION:GI mg "FRACTION" 8388607
 MADE_NAN:GI mg "MADE_NAN" 4290772992
 len:mg "len"=none
 abs:mg "abs"=none
 range:mg "range"=none
abbrev K5:Stmt:=top 7
theorem SW:bJ ["x"] ["x"] (bC K5):=bV (by kernel_rfl)
abbrev tZ:Stmt:=top 8
theorem CJ:bJ ["x"] ["x"] (bC tZ):=bV (by kernel_rfl)
abbrev oR:Stmt:=top 9
theorem vT:bJ ["x"] ["x"] (bC oR):=bV (by kernel_rfl)
abbrev QT:Stmt:=top 10
theorem VD:bJ ["short"] ["short"] (bC QT):=bV (by kernel_rfl)
abbrev K2:Stmt:=top 11
theorem SU:bJ ["x"] ["x"] (bC K2):=bV (by kernel_rfl)
inductive sO(vs:List V)(H:Hp)(Q:VK)(E:XK):Prop
 | mk (x:Nat) (_:vs=[.int x]) (_:x<4294967296) (_:Q (.bl (Br.isNan x)) H):sO vs H Q E
inductive i9(vs:List V)(H:Hp)(Q:VK)(E:XK):Prop
 | mk (x:Nat) (_:vs=[.int x]) (_:x<4294967296) (_:Q (.bl (Br.isInf x)) H):i9 vs H Q E
inductive eE(vs:List V)(H:Hp)(Q:VK)(E:XK):Prop
 | mk (x:Nat) (_:vs=[.int x]) (_:x<4294967296) (_:Q (.bl (Br.isSmall x)) H):eE vs H Q E
inductive lS(vs:List V)(H:Hp)(Q:VK)(E:XK):Prop
 | mk (x:Nat) (_:vs=[.int x]) (_:x<65536) (_:Q (.int (Br.wide x:Nat)) H):lS vs H Q E
inductive iS(vs:List V)(H:Hp)(Q:VK)(E:XK):Prop
 | mk (x:Nat) (_:vs=[.int x]) (_:x<4294967296) (_:Q (.int (Br.narrowed x:Nat)) H):iS vs H Q E
section
variable{P:Program}{w:World}{K:W.Frag}{mg:Str→Option Value}{base:Heap}
theorem S2(D:Def K mg "is_nan" K5 ["x"])(T:Txt K mg):Own P w K mg base "is_nan" ["x"] 1 sO:=by
 refine D.own SW (fun vs H Q E h=>?_) (fun f cdv A outer s H vs Q E hr h=>?_)
 ·obtain⟨x,rfl,_⟩:=h;rfl
 ·obtain⟨x,rfl,hx,k⟩:=h;refine⟨_,(bA (bI (hG (jN (bH gB (pv 0) (bH uA (cH rfl T.INFINITE) (cH rfl T.FRACTION))) (cH rfl T.INFINITE))))),?_⟩;walk_at"0";rw[BM.yW hx] at k;rw[aAi,show decide ((2139095040:Int)<((x % 2147483648:Nat):Int))=decide (2139095040<x % 2147483648) from by congr 1;apply propext;lia];exact k
theorem DN(D:Def K mg "is_infinite" tZ ["x"])(T:Txt K mg):Own P w K mg base "is_infinite" ["x"] 1 i9:=by
 refine D.own CJ (fun vs H Q E h=>?_) (fun f cdv A outer s H vs Q E hr h=>?_)
 ·obtain⟨x,rfl,_⟩:=h;rfl
 ·obtain⟨x,rfl,hx,k⟩:=h;refine⟨_,(bA (bI (hG (cY (bH gB (pv 0) (bH uA (cH rfl T.INFINITE) (cH rfl T.FRACTION))) (cH rfl T.INFINITE))))),?_⟩;walk_at"0";rw[BM.sW hx] at k;rw[aAi,show decide (((x % 2147483648:Nat):Int)=2139095040)=decide (x % 2147483648=2139095040) from by congr 1;apply propext;lia];exact k
theorem wS(D:Def K mg "counts_as_zero" oR ["x"])(T:Txt K mg):Own P w K mg base "counts_as_zero" ["x"] 1 eE:=by
 refine D.own vT (fun vs H Q E h=>?_) (fun f cdv A outer s H vs Q E hr h=>?_)
 ·obtain⟨x,rfl,_⟩:=h;rfl
 ·obtain⟨x,rfl,hx,k⟩:=h;refine⟨_,(bA (bI (hG (cY (bH gB (pv 0) (cH rfl T.INFINITE)) a8)))),?_⟩;walk_at"0";rw[X6,show decide (((x / 8388608 % 256*8388608:Nat):Int)=0)=Br.isSmall x from ?_]
  ·exact k
  ·unfold Br.isSmall Br.expOf;rw[show (2:Nat) ^ 23=8388608 from rfl,Bool.beq_eq_decide_eq];congr 1;apply propext;lia
theorem VX(D:Def K mg "widen" QT ["short"]):Own P w K mg base "widen" ["short"] 1 lS:=by
 refine D.own VD (fun vs H Q E h=>?_) (fun f cdv A outer s H vs Q E hr h=>?_)
 ·obtain⟨x,rfl,_⟩:=h;rfl
 ·obtain⟨x,rfl,hx,k⟩:=h;refine⟨_,(bA (bI (bH rL (pv 0) a8))),?_⟩;walk_at"0";refine⟨⟨by decide,by decide,by rw[Int.natAbs_natCast];lia⟩,?_⟩;rw[BM.A9 hx] at k;rw[show (x:Int)*65536=((x*65536:Nat):Int) from by lia];exact k
theorem SY(D:Def K mg "narrow" K2 ["x"])(T:Txt K mg)(xW:Own P w K mg base "is_nan" ["x"] 1 sO)(fR:Own P w K mg base "counts_as_zero" ["x"] 1 eE):
  Own P w K mg base "narrow" ["x"] 2 iS:=by
 refine D.own SU (fun vs H Q E h=>?_) (fun f cdv A outer s H vs Q E hr h=>?_)
 ·obtain⟨x,rfl,_⟩:=h;rfl
 ·obtain⟨x,rfl,hx,k⟩:=h;refine⟨_,(aZ (cE (eO (bN xW hr (by decide) rfl (aY (pv 0) a6))) (bA (bI (bH uA (bH pO (pv 0) a8) a8))) bT)
   (aZ (cE (eO (bN fR hr (by decide) rfl (aY (pv 0) a6))) (bA (bI (bH pO (bH gB (pv 0) (cH rfl T.SIGN)) a8))) bT)
   (bA (bI (bH pO (bH bX (bH bX (pv 0) a8) (bH gB (bH pO (pv 0) a8) a8)) a8))))),?_⟩
  walk_at"0";refine⟨x,rfl,hx,_,rfl,?_⟩;refine cZ (fun h=>⟨by decide,?_⟩) (fun h=>⟨x,rfl,hx,_,rfl,cZ (fun h2=>⟨by decide,?_⟩) (fun h2=>⟨by decide,by decide,?_⟩)⟩)
  ·have e:Builtin.bitOr ((x:Int) / 65536) 64=((Br.narrowed x:Nat):Int):=by
    rw[show (x:Int) / 65536=((x / 65536:Nat):Int) from by omega,show (64:Int)=((2 ^ 6:Nat):Int) from rfl,bOr,BM.OQ];unfold Br.narrowed Br.quiet;rw[if_pos h,show (2:Nat) ^ 6=64 from rfl,show (2:Nat) ^ 22=4194304 from rfl,show (2:Nat) ^ 16=65536 from rfl]
    split <;> split <;> omega
   rw[e];exact k
  ·have e:Builtin.bitAnd (x:Int) 2147483648 / 65536=((Br.narrowed x:Nat):Int):=by
    rw[yA];unfold Br.narrowed;rw[if_neg h,if_neg (by rw[(BM.qP h2).2];decide),if_pos h2,BM.gW];by_cases c:x / 2147483648 % 2=1
    ·rw[if_pos (aFc c),c];decide
    ·rw[if_neg (by simpa using c),show x / 2147483648 % 2=0 from by omega];decide
   rw[e];exact k
  ·have e:((x:Int)+32767+Builtin.bitAnd ((x:Int) / 65536) 1) / 65536=((Br.narrowed x:Nat):Int):=by
    rw[BM.FN hx (by simpa using h) (by simpa using h2),bitAnd_m1];omega
   rw[e];exact k
abbrev VG:Stmt:=top 14
theorem kD:bJ ["s","a","b","s_power","a_power","b_power","product_sign","exact","product"] ["s","a","b"] (bC VG):=bV (by kernel_rfl)
abbrev tV:Stmt:=top 15
theorem lW:bJ ["s","a","b","x","product"] ["s","a","b"] (bC tV):=bV (by kernel_rfl)
abbrev GE:Stmt:=top 16
theorem jR:bJ ["exact","sign","size","spare","kept","bits"] ["exact"] (bC GE):=bV (by kernel_rfl)
inductive i8(vs:List V)(H:Hp)(Q:VK)(E:XK):Prop
 | mk (s a b:Nat) (_:vs=[.int s,.int (Br.wide a:Nat),.int (Br.wide b:Nat)]) (_:s<4294967296) (_:(Br.expOf s=255∨Br.expOf (Br.wide a)=255∨Br.expOf (Br.wide b)=255)) (_:∀ H',Same H H'→Q (.int (Br.step s a b:Nat)) H'):i8 vs H Q E
inductive uQ(vs:List V)(H:Hp)(Q:VK)(E:XK):Prop
 | mk (e:Int) (_:vs=[.int (4*e)]) (_:e≠0) (_:32≤e.natAbs.log2) (_:e.natAbs.log2<700) (_:Q (.int (Br.made e:Nat)) H):uQ vs H Q E
inductive mY(vs:List V)(H:Hp)(Q:VK)(E:XK):Prop
 | mk (s a b:Nat) (_:vs=[.int s,.int a,.int b]) (_:s<4294967296) (_:a<65536) (_:b<65536) (_:∀ H',Same H H'→Q (.int (Br.step s a b:Nat)) H'):mY vs H Q E
theorem IO{x:Nat}:Builtin.bitOr (x:Int) 4194304=((Br.quiet x:Nat):Int):=by
 rw[show (4194304:Int)=((2 ^ 22:Nat):Int) from rfl,bOr,BM.OQ];rfl
theorem aAz(a b:Nat):Builtin.bitOr (Builtin.bitAnd (Builtin.bitXor (Br.wide a:Nat) (Br.wide b:Nat)) 2147483648) 2139095040=((BM.nI a b:Nat):Int):=by
 rw[aBQ,yA,show (2139095040:Int)=((2139095040:Nat):Int) from rfl,bOr,Nat.or_comm];have h:=BM.VU 2139095040 ((Br.wide a ^^^ Br.wide b) / 2147483648 % 2) 31 (by decide);rw[show (2:Nat) ^ 31=2147483648 from rfl] at h;rw[h,Nat.add_comm];rfl
theorem DK(D:Def K mg "step_beyond" tV ["s","a","b"])(T:Txt K mg)(xW:Own P w K mg base "is_nan" ["x"] 1 sO)(kK:Own P w K mg base "is_infinite" ["x"] 1 i9)
  (fR:Own P w K mg base "counts_as_zero" ["x"] 1 eE):Own P w K mg base "step_beyond" ["s","a","b"] 2 i8:=by
 refine D.own lW (fun vs H Q E h=>?_) (fun f cdv A outer s H vs Q E hr h=>?_)
 ·obtain⟨x,a,b,rfl,_⟩:=h;rfl
 ·obtain⟨x,a,b,rfl,hx,he,k⟩:=h;refine⟨_,(aZ (dG (jD PassesOwn.never rfl (aBb (fC (aY (pv 1) (aY (pv 2) (aY (pv 0) a6))))) (dM (i:=3) lW.nd rfl (Or.inl rfl)) (bA (cE (eO (bN xW hr (by decide) rfl (aY (pv 3) a6))) (bA (bI (bH uA (pv 3) (cH rfl T.BIT_22)))) bT))))
   (aZ (cE (PW.pt (pK (jT (eO (bN kK hr (by decide) rfl (aY (pv 1) a6)))) (lJ (jT (eO (bN kK hr (by decide) rfl (aY (pv 2) a6))))))) (bA (bI (pv 0))) bT)
   (aZ (bK (i:=4) lW.nd rfl (Or.inl rfl) (bH uA (bH gB (bH VV (pv 1) (pv 2)) (cH rfl T.SIGN)) (cH rfl T.INFINITE)))
   (aZ (cE (PW.pt (jM (eO (bN fR hr (by decide) rfl (aY (pv 1) a6))) (k0 (eO (bN fR hr (by decide) rfl (aY (pv 2) a6)))))) (bA (bI (cH rfl T.MADE_NAN))) bT)
   (aZ (cE (PW.pt (pK (eO (bN kK hr (by decide) rfl (aY (pv 0) a6))) (lJ (bU (gO (pv 0) (pv 4)))))) (bA (bI (cH rfl T.MADE_NAN))) bT)
   (bA (bI (pv 4)))))))),?_⟩
  refine⟨fun σ' H'=>Same H H'∧(∃ v,σ'=[some (.int x),some (.int (Br.wide a:Nat)),some (.int (Br.wide b:Nat)),v,none])∧Br.isNan (Br.wide a)=false∧Br.isNan (Br.wide b)=false∧Br.isNan x=false,?_,?_⟩
  ·refine⟨_,rfl,_,rfl,_,rfl,(by show 3≤sizeLine;decide),fun p hp=>⟨p,rfl,⟨_,gF.of a7⟩,ZX (K:=K) (a:=p) (xs:=[V.int (Br.wide a:Nat),V.int (Br.wide b:Nat),V.int x])
    (fun i σ' H'=>H'=upd H p (.tup [V.int (Br.wide a:Nat),V.int (Br.wide b:Nat),V.int x])∧(∃ v,σ'=[some (.int x),some (.int (Br.wide a:Nat)),some (.int (Br.wide b:Nat)),v,none])∧(1≤i→Br.isNan (Br.wide a)=false)∧(2≤i→Br.isNan (Br.wide b)=false)∧(3≤i→Br.isNan x=false))
    ⟨rfl,⟨_,rfl⟩,fun h=>absurd h (by decide),fun h=>absurd h (by decide),fun h=>absurd h (by decide)⟩ (fun i σ' H' _ h=>by rw[h.1];exact gF.of a7) ?_ ?_⟩⟩
   ·have sm:Same H (upd H p (.tup [V.int (Br.wide a:Nat),V.int (Br.wide b:Nat),V.int x])):=fun c o e=>by
     rw[bF (dR e hp)];exact e
    rintro i y σ' H' hy ⟨rfl,⟨v,rfl⟩,n1,n2,n3⟩;have hi:i<3:=(aFQ.mp hy).1;have hi':i=0∨i=1∨i=2:=by
     clear k n1 n2 n3;lia
    rcases hi' with rfl | rfl | rfl
    ·
     obtain rfl:_=y:=aFa hy;walk_at"0";refine⟨_,rfl,BM.j5 a,_,rfl,cZ (fun h=>?_) (fun h=>⟨rfl,⟨_,rfl⟩,fun _=>by simpa using h,fun z=>absurd z (by decide),fun z=>absurd z (by decide)⟩)⟩;rw[IO,←BM.N8 (s:=x) (b:=b) h];exact k _ sm
    ·
     obtain rfl:_=y:=aFa hy;walk_at"0";refine⟨_,rfl,BM.j5 b,_,rfl,cZ (fun h=>?_) (fun h=>⟨rfl,⟨_,rfl⟩,fun _=>n1 (by decide),fun _=>by simpa using h,fun z=>absurd z (by decide)⟩)⟩;rw[IO,←BM.N7 (s:=x) (n1 (by decide)) h];exact k _ sm
    ·
     obtain rfl:_=y:=aFa hy;walk_at"0";refine⟨_,rfl,hx,_,rfl,cZ (fun h=>?_) (fun h=>⟨rfl,⟨_,rfl⟩,fun _=>n1 (by decide),fun _=>n2 (by decide),fun _=>by simpa using h⟩)⟩;rw[IO,←BM.N6 (n1 (by decide)) (n2 (by decide)) h];exact k _ sm
   ·rintro σ' H' ⟨rfl,⟨v,rfl⟩,n1,n2,n3⟩;exact⟨fun c o e=>by rw[bF (dR e hp)];exact e,⟨v,rfl⟩,n1 (by simp),n2 (by simp),n3 (by simp)⟩
  ·rintro σ' H' ⟨sm,⟨v,rfl⟩,n1,n2,n3⟩;walk_at"0";rw[aAz];have fin:(Br.isInf (Br.wide a)=true∨Br.isInf (Br.wide b)=true)→eE [V.int (Br.wide a:Nat)] H' (fun x_1 H1=>b1 x_1 fun c=>if c=true then Q (V.int 4290772992) H1 else
     eE [V.int (Br.wide b:Nat)] H1 (fun x_2 H1=>b1 x_2 fun c=>if c=true then Q (V.int 4290772992) H1 else
      i9 [V.int x] H1 (fun x_3 H1=>b1 x_3 fun c=>if c=true then (if decide ((x:Int)=(BM.nI a b:Nat))=false then Q (V.int 4290772992) H1 else Q (V.int (BM.nI a b:Nat)) H1) else Q (V.int (BM.nI a b:Nat)) H1) E0) E0) E0:=fun hi=>by
    have none_:(Br.isSmall (Br.wide a)=true∨Br.isSmall (Br.wide b)=true)→Q (V.int 4290772992) H':=fun z=>by
     have e:=BM.SQ n1 n2 n3 hi z;have q:=k H' sm;rw[e] at q;exact q
    refine⟨_,rfl,BM.j5 a,_,rfl,cZ (fun h=>none_ (.inl h)) (fun h=>⟨_,rfl,BM.j5 b,_,rfl,cZ (fun h2=>none_ (.inr h2)) (fun h2=>⟨_,rfl,hx,_,rfl,?_⟩)⟩)⟩;have e:=BM.SO hx n1 n2 n3 hi (by simpa using h) (by simpa using h2);have q:=k H' sm;rw[e] at q;refine cZ (fun h3=>cZ (fun h4=>?_) (fun h4=>?_)) (fun h3=>?_)
    ·rw[if_pos ⟨h3,fun z=>of_decide_eq_false h4 (by rw[←z])⟩] at q;exact q
    ·rw[if_neg (fun z=>z.2 (Int.natCast_inj.mp (by simpa using h4)))] at q;exact q
    ·rw[if_neg (fun z=>h3 z.1)] at q;exact q
   refine⟨_,rfl,BM.j5 a,_,rfl,cZ (fun h=>⟨_,rfl,BM.j5 b,_,rfl,cZ (fun h2=>?_) (fun h2=>fin (.inr (by simpa using h2)))⟩) (fun h=>fin (.inl (by simpa using h)))⟩;have hi:Br.isInf x=true:=by
    have inf:∀ y,Br.isNan y=false→Br.expOf y=255→Br.isInf y=true:=fun y n e=>by
     unfold Br.isNan at n;unfold Br.isInf;rw[e] at n ⊢;simpa using n
    rcases he with he | he | he
    ·exact inf _ n3 he
    ·rw[inf _ n1 he] at h;cases h
    ·rw[inf _ n2 he] at h2;cases h2
   have q:=k H' sm;rw[BM.aAI n1 n2 n3 h h2 hi] at q;exact q
theorem aCU(e:Int):(if 4*e<0 then -(4*e) else 4*e)=((4*e.natAbs:Nat):Int):=by
 split <;> lia
theorem aBO{e:Int}(he:e≠0):Builtin.Int.intBits ((4*e.natAbs:Nat):Int)=e.natAbs.log2+3:=by
 have hn:e.natAbs≠0:=by lia
 generalize e.natAbs=n at hn;unfold Builtin.Int.intBits;rw[if_neg (by simp;lia),Int.natAbs_natCast];obtain⟨a,b⟩:=BM.AE hn;rw[BM.RD (n:=4*n) (L:=n.log2+2) (by rw[Nat.pow_add];lia) (by rw[show n.log2+2+1=n.log2+1+2 from rfl,Nat.pow_add _ _ 2];lia)]
theorem aBx{n:Nat}(h:32≤n.log2):((((4*n:Nat):Int)+1*2 ^ (n.log2-22)-1+Builtin.bitAnd (((4*n:Nat):Int) / 2 ^ (n.log2-21)) 1) / 2 ^ (n.log2-21))=((BM.p7 n:Nat):Int):=by
 have e1:2 ^ (n.log2-22)=2*2 ^ (n.log2-23):=by
  rw[←Nat.pow_succ'];congr 1;lia
 have e2:2 ^ (n.log2-21)=4*2 ^ (n.log2-23):=by
  rw[show (4:Nat)=2 ^ 2 from rfl,←Nat.pow_add];congr 1;lia
 have hp:=Nat.two_pow_pos (n.log2-23);rw[two_pow_cast,two_pow_cast,e1,e2,bitAnd_m1];unfold BM.p7;generalize 2 ^ (n.log2-23)=q at *;have e3:((4*n:Nat):Int) / ((4*q:Nat):Int)=((n / q:Nat):Int):=by
  rw[←Int.natCast_ediv,Nat.mul_div_mul_left _ _ (by decide)]
 rw[e3];have e4:(((4*n:Nat):Int)+1*((2*q:Nat):Int)-1+((n / q:Nat):Int) % 2)=((4*n+2*q-1+n / q % 2:Nat):Int):=by
  lia
 rw[e4,←Int.natCast_ediv]
theorem QS{c:Bool}{m:Nat}{z:Int}(h:z<2147483648)(e:z=(m:Int)):Builtin.bitOr ((if c=true then 2147483648 else 0:Nat):Int) z=((Br.bits c m:Nat):Int):=by
 subst e;have hm:m<2147483648:=by lia
 rw[bOr,Nat.or_comm];unfold Br.bits;cases c
 ·show ((m ||| 0:Nat):Int)=(m:Int);rw[Nat.or_zero]
 ·have q:=BM.VU m 1 31 (by rw[show (2:Nat) ^ 31=2147483648 from rfl];exact hm);rw[Nat.one_mul] at q;show ((m ||| 2147483648:Nat):Int)=((2 ^ 31+m:Nat):Int);rw[show (2147483648:Nat)=2 ^ 31 from rfl,q,Nat.add_comm]
theorem OX(D:Def K mg "rounded" GE ["exact"])(T:Txt K mg):Own P w K mg base "rounded" ["exact"] 1 uQ:=by
 refine D.own jR (fun vs H Q E h=>?_) (fun f cdv A outer s H vs Q E hr h=>?_)
 ·obtain⟨x,rfl,_⟩:=h;rfl
 ·obtain⟨e,rfl,he,hl,hu,k⟩:=h;refine⟨_,(aZ (bK (i:=1) jR.nd rfl (Or.inl rfl) (iE (bU (wM (pv 0) a8)) (cH rfl T.SIGN) a8))
   (aZ (bK (i:=2) jR.nd rfl (Or.inl rfl) (bY XI (by rfl) T.abs boot_abs (aY (pv 0) a6)))
   (aZ (bK (i:=3) jR.nd rfl (Or.inl rfl) (bH eU (GT (pv 2)) a8))
   (aZ (bK (i:=4) jR.nd rfl (Or.inl rfl) (bH pO (bH bX (bH eU (bH bX (pv 2) (bH rL a8 (bH eU (pv 3) a8))) a8) (bH gB (bH pO (pv 2) (pv 3)) a8)) (pv 3)))
   (aZ (bK (i:=5) jR.nd rfl (Or.inl rfl) (bH bX (bH rL (bH eU (pv 3) a8) a8) (pv 4)))
   (aZ (cE (bU (LP (pv 5) (cH rfl T.INFINITE))) (bA (bI (bH uA (pv 1) (cH rfl T.INFINITE)))) bT)
   (aZ (cE (bU (wM (pv 5) (cH rfl T.LEAST))) (bA (bI (pv 1))) bT)
   (bA (bI (bH uA (pv 1) (pv 5))))))))))),?_⟩
  walk_at"0";rw[aCU,aBO he];generalize hn:e.natAbs=n at *;have h21:((((n.log2+3:Nat):Int)-24)).toNat=n.log2-21:=by lia
  have h22:((((n.log2+3:Nat):Int)-24-1)).toNat=n.log2-22:=by lia
  rw[h21,h22,aBx hl];simp only[show ((((n.log2+3:Nat):Int)-24-151)*8388608+(BM.p7 n:Nat))=BM.r8 n from by unfold BM.r8;lia];have hn0:(n.log2+3:Nat)<1000:=by lia
  have cp1:aBY 1 (((n.log2+3:Nat):Int)-24-1):=⟨by lia,by lia,by decide⟩;have cp2:aBY (((n.log2+3:Nat):Int)-24-151) 23:=⟨by decide,by decide,by lia⟩;have c:=BM.EK (n:=n) (by lia);have km:Br.made e=Br.bits (decide (e<0)) (if Br.BEYOND≤Br.rounded n then Br.INFINITY else if Br.rounded n<Br.LEAST then 0 else Br.single (Br.rounded n)):=by
   unfold Br.made;rw[hn]
  rw[km] at k;have fin:∀ (c:Bool) (S:Int),(S=((if c=true then 2147483648 else 0:Nat):Int))→Q (V.int (Br.bits c (if Br.BEYOND≤Br.rounded n then Br.INFINITY else if Br.rounded n<Br.LEAST then 0 else Br.single (Br.rounded n)):Nat)) H →
    (if decide (2139095040≤BM.r8 n)=true then Q (V.int (Builtin.bitOr S 2139095040)) H else if decide (BM.r8 n<8388608)=true then Q (V.int S) H else Q (V.int (Builtin.bitOr S (BM.r8 n))) H):=by
   intro c S hS q;subst hS;rename_i cc;rcases cc with ⟨c1,c2⟩ | ⟨c1,c2,c3⟩ | ⟨c1,c2,c3,c4,c5⟩
   ·rw[if_pos (aFc c2)];rw[if_pos c1] at q;rw[QS (m:=Br.INFINITY) (z:=2139095040) (by decide) (by decide)];exact q
   ·rw[if_neg (by rw[decide_eq_false (by lia)];decide),if_pos (aFc c3)];rw[if_neg (by lia),if_pos c1] at q;cases c
    ·exact q
    ·exact q
   ·rw[if_neg (by rw[decide_eq_false (by lia)];decide),if_neg (by rw[decide_eq_false (by lia)];decide)];rw[if_neg c1,if_neg c2] at q;rw[QS (by lia) c5];exact q
  refine cZ (fun h=>⟨rfl,cp1,by lia,by lia,cp2,fin true _ rfl ?_⟩) (fun h=>⟨rfl,cp1,by lia,by lia,cp2,fin false _ rfl ?_⟩)
  ·rw[aFc (show e<0 by have:=aFf h;lia)] at k;exact k
  ·rw[decide_eq_false (show ¬e<0 by intro z;exact h (aFc (by lia)))] at k;exact k
theorem yY(a:Nat):a*65536 / 2147483648=a / 32768:=by lia
theorem aAS{a b:Nat}(ha:a<65536)(hb:b<65536):Builtin.bitAnd (Builtin.bitXor (a:Int) (b:Int)*65536) 2147483648=((if Br.minus a b=true then 2147483648 else 0:Nat):Int):=by
 rw[aBQ,show ((a ^^^ b:Nat):Int)*65536=(((a ^^^ b)*65536:Nat):Int) from by lia,yA];have h:=BM.QJ a b 15;rw[show (2:Nat) ^ 15=32768 from rfl] at h;rw[yY (a ^^^ b),h];unfold Br.minus;rw[BM.gW,BM.gW,BM.A9 ha,BM.A9 hb];rw[yY a,yY b];have c1:a / 32768=0∨a / 32768=1:=by lia
 have c2:b / 32768=0∨b / 32768=1:=by lia
 rcases c1 with c1 | c1 <;> rcases c2 with c2 | c2 <;> rw[c1,c2] <;> decide
theorem Y2(D:Def K mg "step" VG ["s","a","b"])(T:Txt K mg)(nM:Own P w K mg base "widen" ["short"] 1 lS)(uF:Own P w K mg base "step_beyond" ["s","a","b"] 2 i8)
  (HS:Own P w K mg base "rounded" ["exact"] 1 uQ):Own P w K mg base "step" ["s","a","b"] 3 mY:=by
 refine D.own kD (fun vs H Q E h=>?_) (fun f cdv A outer s H vs Q E hr h=>?_)
 ·obtain⟨x,a,b,rfl,_⟩:=h;rfl
 ·obtain⟨x,a,b,rfl,hx,ha,hb,k⟩:=h;have es:Builtin.bitAnd ((x:Int) / 8388608) 255=((x / 8388608 % 256:Nat):Int):=by rw[show (x:Int) / 8388608=((x / 8388608:Nat):Int) from by lia,NQ]
  have ea:Builtin.bitAnd ((a:Int) / 128) 255=((a / 128 % 256:Nat):Int):=by rw[show (a:Int) / 128=((a / 128:Nat):Int) from by lia,NQ]
  have eb:Builtin.bitAnd ((b:Int) / 128) 255=((b / 128 % 256:Nat):Int):=by rw[show (b:Int) / 128=((b / 128:Nat):Int) from by lia,NQ]
  refine⟨_,(aZ (bK (i:=3) kD.nd rfl (Or.inl rfl) (bH gB (bH pO (pv 0) a8) a8))
   (aZ (bK (i:=4) kD.nd rfl (Or.inl rfl) (bH gB (bH pO (pv 1) a8) a8))
   (aZ (bK (i:=5) kD.nd rfl (Or.inl rfl) (bH gB (bH pO (pv 2) a8) a8))
   (aZ (cE (PW.pt (jM (bU (cY (pv 3) a8)) (jM (bU (cY (pv 4) a8)) (k0 (bU (cY (pv 5) a8)))))) (bA (bI (bN uF hr (by decide) rfl (aY (pv 0) (aY (bN nM hr (by decide) rfl (aY (pv 1) a6)) (aY (bN nM hr (by decide) rfl (aY (pv 2) a6)) a6)))))) bT)
   (aZ (bK (i:=6) kD.nd rfl (Or.inl rfl) (bH gB (bH rL (bH VV (pv 1) (pv 2)) a8) (cH rfl T.SIGN)))
   (aZ (bK (i:=7) kD.nd rfl (Or.inl rfl) a8)
   (aZ (dG (cE (bU (gO (pv 3) a8)) (bA (bK (i:=7) kD.nd rfl (Or.inl rfl) (bH rL (bH uA (bH gB (pv 0) (cH rfl T.FRACTION)) (cH rfl T.LEAST)) (bH bX (pv 3) a8)))) bT))
   (aZ (dG (cE (wJ (bH gB (pv 0) (cH rfl T.SIGN)) (fun _=>rfl)) (bA (bK (i:=7) kD.nd rfl (Or.inl rfl) (fD dZ (pv 7)))) bT))
   (aZ (dG (cE (PW.pt (pK (bU (gO (pv 4) a8)) (lJ (bU (gO (pv 5) a8))))) (aZ (bK (i:=8) kD.nd rfl (Or.inl rfl) (bH rL (bH eC (bH uA (bH gB (pv 1) a8) a8) (bH uA (bH gB (pv 2) a8) a8)) (bH bX (bH bX (pv 4) (pv 5)) a8)))
   (bA (VN (i:=7) kD.nd rfl (Or.inl rfl) (iE (wJ (pv 6) (fun _=>rfl)) (fD dZ (pv 8)) (pv 8)) WM))) bT))
   (aZ (cE (bU (cY (pv 7) a8)) (bA (bI (bH gB (pv 0) (pv 6)))) bT)
   (bA (bI (bN HS hr (by decide) rfl (aY (pv 7) a6)))))))))))))),?_⟩
  walk_at"0";simp only[es,ea,eb,aAS ha hb];refine⟨by decide,by decide,by decide,?_⟩;have beyond:(Br.expOf x=255∨Br.expOf (Br.wide a)=255∨Br.expOf (Br.wide b)=255)→lS [V.int a] H (fun x_1 H1=>lS [V.int b] H1 (fun x_2 H1=>i8 [V.int x,x_1,x_2] H1 Q E0) E0) E0:=
   fun he=>⟨a,rfl,ha,b,rfl,hb,x,a,b,rfl,hx,he,k⟩
  refine cZ (fun h=>beyond (.inl ?_)) (fun h1=>cZ (fun h=>beyond (.inr (.inl ?_))) (fun h2=>cZ (fun h=>beyond (.inr (.inr ?_))) (fun h3=>?_)))
  ·exact Int.natCast_inj.mp (aFf h)
  ·rw[(BM.iN ha).1];exact Int.natCast_inj.mp (aFf h)
  ·rw[(BM.iN hb).1];exact Int.natCast_inj.mp (aFf h)
  have f1:Br.expOf x≠255:=fun z=>h1 (aFc (Int.natCast_inj.mpr z));have f2:Br.expOf (Br.wide a)≠255:=fun z=>h2 (aFc (Int.natCast_inj.mpr (by rw[←(BM.iN ha).1];exact z)));have f3:Br.expOf (Br.wide b)≠255:=fun z=>h3 (aFc (Int.natCast_inj.mpr (by rw[←(BM.iN hb).1];exact z)));have kk:=k H (Same.refl H);rw[BM.U9 f2 f3 f1] at kk;have hxo:a ^^^ b<65536:=Nat.xor_lt_two_pow (n:=16) ha hb;refine⟨⟨by decide,by decide,by rw[aBQ,Int.natAbs_natCast];lia⟩,?_⟩;refine⟨fun σ' H'=>H'=H∧σ'=[some (V.int x),some (V.int a),some (V.int b),some (V.int (x / 8388608 % 256:Nat)),some (V.int (a / 128 % 256:Nat)),some (V.int (b / 128 % 256:Nat)),some (V.int (if Br.minus a b=true then 2147483648 else 0:Nat)),some (V.int (BM.yM x:Nat)),none],?_,?_⟩
  ·walk_at"0";have hz:Builtin.bitOr (Builtin.bitAnd (x:Int) 8388607) 8388608=((x % 8388608+8388608:Nat):Int):=by
    rw[X7,show (8388608:Int)=((2 ^ 23:Nat):Int) from rfl,bOr,OP 23 (aFN _ (by decide))]
   rw[hz];refine cZ (fun h=>⟨⟨by lia,by lia,by rw[Int.natAbs_natCast];lia⟩,?_⟩) (fun h=>?_)
   ·have hne:¬x / 8388608 % 256=0:=by
     have:=of_decide_eq_false h;lia
    unfold BM.yM;rw[if_neg hne,show (((x / 8388608 % 256:Nat):Int)+150).toNat=x / 8388608 % 256+150 from by lia,Bits.p6]
   ·have he:x / 8388608 % 256=0:=by
     have h':decide (((x / 8388608 % 256:Nat):Int)=0)=true:=by simpa using h
     have:=aFf h';lia
    unfold BM.yM;rw[if_pos he];rfl
  rintro σ' H' ⟨rfl,rfl⟩;refine⟨fun σ' H''=>H''=H'∧σ'=[some (V.int x),some (V.int a),some (V.int b),some (V.int (x / 8388608 % 256:Nat)),some (V.int (a / 128 % 256:Nat)),some (V.int (b / 128 % 256:Nat)),some (V.int (if Br.minus a b=true then 2147483648 else 0:Nat)),some (V.int (Br.signed (Br.neg x) (BM.yM x))),none],?_,?_⟩
  ·walk_at"0";refine⟨_,rfl,?_⟩;rw[yA];refine cZ (fun h=>?_) (fun h=>?_)
   ·have hn:Br.neg x=true:=by
     rw[BM.gW];refine aFc ?_;have h':((x / 2147483648 % 2*2147483648:Nat):Int)≠0:=by simpa using h
     lia
    rw[hn];rfl
   ·have hn:Br.neg x=false:=by
     rw[BM.gW];refine decide_eq_false fun z=>?_;rw[z] at h;exact h (by decide)
    rw[hn];rfl
  rintro σ' H' ⟨rfl,rfl⟩;refine⟨fun σ' H''=>H''=H'∧∃ v,σ'=[some (V.int x),some (V.int a),some (V.int b),some (V.int (x / 8388608 % 256:Nat)),some (V.int (a / 128 % 256:Nat)),some (V.int (b / 128 % 256:Nat)),some (V.int (if Br.minus a b=true then 2147483648 else 0:Nat)),some (V.int (4*Br.exact x a b)),v],?_,?_⟩
  ·walk_at"0";have hza:Builtin.bitOr (Builtin.bitAnd (a:Int) 127) 128=((a % 128+128:Nat):Int):=by
    rw[UT,show (128:Int)=((2 ^ 7:Nat):Int) from rfl,bOr,OP 7 (aFN _ (by decide))]
   have hzb:Builtin.bitOr (Builtin.bitAnd (b:Int) 127) 128=((b % 128+128:Nat):Int):=by
    rw[UT,show (128:Int)=((2 ^ 7:Nat):Int) from rfl,bOr,OP 7 (aFN _ (by decide))]
   rw[hza,hzb,BM.MQ ha hb];have zero:(a / 128 % 256=0∨b / 128 % 256=0)→Br.signed (Br.neg x) (BM.yM x)=Br.signed (Br.neg x) (BM.yM x)+Br.signed (Br.minus a b) (BM.DF a b):=fun z=>by
    unfold BM.DF;rw[if_pos z];cases Br.minus a b
    ·exact(Int.add_zero _).symm
    ·exact(Int.add_zero _).symm
   have nz:∀ {n:Nat},¬decide ((n:Int)=0)=false→n=0:=fun h=>by
    have h':=aFf (Bool.not_eq_false _ ▸ h:decide _=true);lia
   refine cZ (fun h=>cZ (fun h'=>?_) (fun h'=>⟨zero (.inr (nz h')),_,rfl⟩)) (fun h=>⟨zero (.inl (nz h)),_,rfl⟩);have ne:¬(a / 128 % 256=0∨b / 128 % 256=0):=fun z=>by
    have q1:=of_decide_eq_false h;have q2:=of_decide_eq_false h';lia
   have hm:((a % 128+128:Nat):Int)*((b % 128+128:Nat):Int)=(((a % 128+128)*(b % 128+128):Nat):Int):=(aFw _ _).symm;have hlt:(a % 128+128)*(b % 128+128)<2 ^ 64:=Nat.lt_of_le_of_lt (Nat.mul_le_mul (show a % 128+128≤256 by lia) (show b % 128+128≤256 by lia)) (by decide);rw[hm,show (((a / 128 % 256:Nat):Int)+((b / 128 % 256:Nat):Int)+32).toNat=a / 128 % 256+b / 128 % 256+32 from by lia,Bits.p6];have hp:BM.DF a b=(a % 128+128)*(b % 128+128)*2 ^ (a / 128 % 256+b / 128 % 256+32):=by
    unfold BM.DF;rw[if_neg ne]
   rw[←hp];refine⟨.inl ⟨by lia,by lia⟩,⟨by lia,by lia,by rw[Int.natAbs_natCast];exact hlt⟩,_,rfl,?_⟩;cases hmi:Br.minus a b
   ·exact aBB ⟨rfl,_,rfl⟩
   ·exact aBA ⟨rfl,_,rfl⟩
  rintro σ' H' ⟨rfl,v,rfl⟩;walk_at"0";refine cZ (fun h=>?_) (fun h=>?_)
  ·have e0:Br.exact x a b=0:=by
    have:=aFf h;lia
   rw[if_pos e0] at kk;have e1:Builtin.bitAnd (x:Int) ((if Br.minus a b=true then 2147483648 else 0:Nat):Int)=((Br.bits (Br.neg x&&Br.minus a b) 0:Nat):Int):=by
    rw[P7,BM.gW];cases Br.minus a b
    ·rw[Bool.and_false];show ((x &&& 0:Nat):Int)=0;rw[Nat.and_zero];rfl
    ·rw[aFm];show ((x &&& 2 ^ 31:Nat):Int)=_;rw[BM.J0,show (2:Nat) ^ 31=2147483648 from rfl];unfold Br.bits;by_cases c:x / 2147483648 % 2=1
     ·rw[c,aFc rfl];rfl
     ·rw[show x / 2147483648 % 2=0 from by lia,decide_eq_false (by decide)];rfl
   rw[e1];exact kk
  ·have e0:Br.exact x a b≠0:=fun z=>h (aFc (by rw[z];rfl));rw[if_neg e0] at kk;exact⟨_,rfl,e0,BM.HH ha hb e0,BM.W7 ha hb,kk⟩
end
local macro_rules | `(tactic| walk_at"0")=>sm false ([]) (dL1++P2++dL3++dL4++dL5++RX++mV++mL++lK++eS++fO++eM)
local macro_rules | `(tactic| walk_at"6")=>sm true ([]) (dL1++P2++dL3++dL4++dL5++RX++mV++mL++lK++eS++fO++eM)
def nums(l:List Nat):List V:=l.map fun (n:Nat)=>V.int (n:Int)
theorem bM(l:List Nat):(nums l).length=l.length:=aFd ..
theorem mG{l:List Nat}{i:Nat}(h:i<l.length):(nums l)[i]?=some (V.int (l.getD i 0:Nat)):=by
 unfold nums;rw[aFH,aFv h,aFe,aFv h];rfl
theorem cW{l:List Nat}{i:Nat}{z:Int}(h:i<l.length)(e:z=(i:Int)):NN (nums l) z=some (V.int (l.getD i 0:Nat)):=at_of e (mG h)
theorem a9{H:Hp}{p:Addr}{o:HO}(hp:H p=none):Same H (upd H p o):=fun c u e=>by
 rw[bF (dR e hp)];exact e
abbrev GD:Stmt:=top 18
theorem gL:bJ ["s","a","b","k","total","first"] ["s","a","b"] (bC GD):=bV (by kernel_rfl)
abbrev VH:Stmt:=top 19
theorem YK:bJ ["x"] ["x"] (bC VH):=bV (by kernel_rfl)
abbrev oQ:Stmt:=top 20
theorem gE:bJ ["singles","first","width","best","place"] ["singles","first","width"] (bC oQ):=bV (by kernel_rfl)
inductive lT(K:W.Frag)(vs:List V)(H:Hp)(Q:VK)(E:XK):Prop
 | mk (s:Nat) (pa pb:Addr) (a b:List Nat) (_:vs=[.int s,.ref pa,.ref pb]) (_:cT K H pa (nums a)) (_:cT K H pb (nums b)) (_:a.length=b.length) (_:a.length≤30000) (_:s<4294967296) (_:(∀ x∈a,x<65536)) (_:(∀ x∈b,x<65536)) (_:∀ H',Same H H'→Q (.int (Br.sum s (Br.twos a.length (fun i=>a.getD i 0) fun i=>b.getD i 0):Nat)) H'):lT K vs H Q E
inductive IE(vs:List V)(H:Hp)(Q:VK)(E:XK):Prop
 | mk (x:Nat) (_:vs=[.int x]) (_:x<4294967296) (_:Q (.int (BM.wI x)) H):IE vs H Q E
inductive gC(K:W.Frag)(vs:List V)(H:Hp)(Q:VK)(E:XK):Prop
 | mk (p:Addr) (l:List Nat) (f n:Nat) (_:vs=[.ref p,.int f,.int n]) (_:cT K H p (nums l)) (_:f+n≤l.length) (_:0<n) (_:l.length≤30000) (_:(∀ x∈l,x<4294967296)) (_:Q (.int (Br.greatest ((l.drop f).take n):Nat)) H):gC K vs H Q E
section
variable{P:Program}{w:World}{K:W.Frag}{mg:Str→Option Value}{base:Heap}
theorem Y3(D:Def K mg "rank" VH ["x"])(T:Txt K mg):Own P w K mg base "rank" ["x"] 1 IE:=by
 refine D.own YK (fun vs H Q E h=>?_) (fun f cdv A outer s H vs Q E hr h=>?_)
 ·obtain⟨x,rfl,_⟩:=h;rfl
 ·obtain⟨x,rfl,hx,k⟩:=h;refine⟨_,(bA (bI (iE (wJ (bH gB (pv 0) (cH rfl T.SIGN)) (fun _=>rfl)) (fD dZ (pv 0)) (pv 0)))),?_⟩;walk_at"0";refine⟨_,rfl,?_⟩;rw[yA];unfold BM.wI at k;rw[BM.gW] at k;by_cases c:x / 2147483648 % 2=1
  ·rw[if_pos (aFc c)] at k;rw[c];exact aBA k
  ·rw[if_neg (by simpa using c)] at k;rw[show x / 2147483648 % 2=0 from by lia];exact aBB k
theorem wR(D:Def K mg "greatest_place" oQ ["singles","first","width"])(T:Txt K mg)(J3:Own P w K mg base "rank" ["x"] 1 IE):Own P w K mg base "greatest_place" ["singles","first","width"] 2 (gC K):=by
 refine D.own gE (fun vs H Q E h=>?_) (fun f cdv A outer s H vs Q E hr h=>?_)
 ·obtain⟨p,l,o,n,rfl,_⟩:=h;rfl
 ·obtain⟨p,l,o,n,rfl,hq,hle,hpos,hl,hx,k⟩:=h;generalize hrow:(l.drop o).take n=row at k;have hlen:row.length=n:=by rw[←hrow,aFq,aFp];lia
  have hne:row≠[]:=fun z=>by rw[z] at hlen;exact absurd hlen (by show ¬0=n;lia)
  have hget:∀ i,i<n→row.getD i 0=l.getD (o+i) 0:=fun i hi=>by rw[←hrow,aFe,aFP hi,List.getElem?_drop,←aFe]
  refine⟨_,(aZ (bK (i:=3) gE.nd rfl (Or.inl rfl) (pv 1))
   (aZ (dG (jD PassesOwn.never rfl (sT rfl T.range (aY (bH bX (pv 1) a8) (aY (bH bX (pv 1) (pv 2)) a6))) (dM (i:=4) gE.nd rfl (Or.inl rfl)) (bA (cE (bU (jN (bN J3 hr (by decide) rfl (aY (cC bZ (pv 0) (pv 4) (fun _ _=>rfl)) a6)) (bN J3 hr (by decide) rfl (aY (cC bZ (pv 0) (pv 3) (fun _ _=>rfl)) a6)))) (bA (bK (i:=3) gE.nd rfl (Or.inl rfl) (pv 4))) bT))))
   (bA (bI (bH eU (pv 3) (pv 1)))))),?_⟩
  walk_at"6";refine⟨fun σ' H'=>H'=H∧∃ v,σ'=[some (.ref p),some (.int o),some (.int n),some (.int (o+Br.greatest row:Nat)),v],?_,?_⟩
  ·refine⟨_,rfl,_,_,rfl,rfl,_,rfl,_,rfl,_,_,rfl,rfl,_,_,rfl,⟨by lia,by lia,by lia,by lia⟩,fM (lo:=((o:Int)+1)) (n:=((o:Int)+n-(o+1)).toNat)
    (fun i σ' H'=>H'=H∧∃ (b:Nat) (v:Option V),σ'=[some (.ref p),some (.int o),some (.int n),some (.int (o+b:Nat)),v]∧BM.Best row (i+1) b) ⟨rfl,0,none,rfl,BM.Best.start hne⟩ ?_ ?_⟩
   ·rintro i σ' H' hi ⟨rfl,b,v,rfl,B⟩;have hi':i+1<n:=by lia
    have hb:=B.lt;walk_at"6";refine⟨_,hq,_,cW (i:=o+(i+1)) (by lia) (by lia),_,rfl,BM.dB (by decide) hx _,_,hq,_,cW (i:=o+b) (by lia) rfl,_,rfl,BM.dB (by decide) hx _,?_⟩;have B':=B.turn (by lia:i+1<row.length);rw[hget _ hi',hget b (by lia)] at B';refine⟨_,rfl,_,rfl,cZ (fun c=>⟨rfl,i+1,_,⟨by lia,rfl⟩,?_⟩) (fun c=>⟨rfl,b,_,⟨rfl,rfl⟩,?_⟩)⟩
    ·rw[if_pos (aFf c)] at B';exact B'
    ·rw[if_neg (fun z=>c (aFc z))] at B';exact B'
   ·rintro σ' H' ⟨rfl,b,v,rfl,B⟩;rw[show (((o:Int)+n-(o+1)).toNat)+1=row.length from by lia] at B;rw[B.done];exact⟨rfl,v,rfl⟩
  ·rintro σ' H' ⟨rfl,v,rfl⟩;walk_at"6";rw[show ((o+Br.greatest row:Nat):Int)-(o:Int)=(Br.greatest row:Nat) from by lia];exact k
theorem OW(D:Def K mg "row_sum" GD ["s","a","b"])(T:Txt K mg)(gQ:Own P w K mg base "step" ["s","a","b"] 3 mY):Own P w K mg base "row_sum" ["s","a","b"] 4 (lT K):=by
 refine D.own gL (fun vs H Q E h=>?_) (fun f cdv A outer s H vs Q E hr h=>?_)
 ·obtain⟨x,pa,pb,a,b,rfl,_⟩:=h;rfl
 ·obtain⟨x,pa,pb,a,b,rfl,hqa,hqb,hlen,hl,hx,ha,hb,k⟩:=h;refine⟨_,(aZ (bK (i:=3) gL.nd rfl (Or.inl rfl) (bY bQ (by rfl) T.len PySem.boot_len (aY (pv 1) a6)))
   (aZ (bK (i:=4) gL.nd rfl (Or.inl rfl) (pv 0))
   (aZ (dG (jD PassesOwn.never rfl (yN rfl T.range (aY a8 (aY (bH eU (pv 3) a8) (aY a8 a6)))) (dM (i:=5) gL.nd rfl (Or.inl rfl)) (aZ (bK (i:=4) gL.nd rfl (Or.inl rfl) (bN gQ hr (by decide) rfl (aY (pv 4) (aY (cC bZ (pv 1) (bH bX (pv 5) a8) (fun _ _=>rfl)) (aY (cC bZ (pv 2) (bH bX (pv 5) a8) (fun _ _=>rfl)) a6)))))
   (bA (bK (i:=4) gL.nd rfl (Or.inl rfl) (bN gQ hr (by decide) rfl (aY (pv 4) (aY (cC bZ (pv 1) (pv 5) (fun _ _=>rfl)) (aY (cC bZ (pv 2) (pv 5) (fun _ _=>rfl)) a6)))))))))
   (aZ (cE (bU (cY (bH yP (pv 3) a8) a8)) (aZ (bK (i:=4) gL.nd rfl (Or.inl rfl) (bN gQ hr (by decide) rfl (aY (pv 4) (aY a8 (aY a8 a6)))))
   (bA (bK (i:=4) gL.nd rfl (Or.inl rfl) (bN gQ hr (by decide) rfl (aY (pv 4) (aY (cC bZ (pv 1) (bH eU (pv 3) a8) (fun _ _=>rfl)) (aY (cC bZ (pv 2) (bH eU (pv 3) a8) (fun _ _=>rfl)) a6))))))) bT)
   (bA (bI (pv 4))))))),?_⟩
  walk_at"6";have la:∀ i,a.getD i 0<65536:=BM.dB (by decide) ha;have lb:∀ i,b.getD i 0<65536:=BM.dB (by decide) hb;generalize hA:(fun i=>a.getD i 0)=fa at k;generalize hB:(fun i=>b.getD i 0)=fb at k;have ga:∀ i,a.getD i 0=fa i:=fun i=>congrFun hA i;have gb:∀ i,b.getD i 0=fb i:=fun i=>congrFun hB i;have lt:∀ i,BM.sumTo x a.length fa fb i<4294967296:=BM.vO hx (fun i=>by rw[←ga];exact la i) (fun i=>by rw[←gb];exact lb i);refine⟨_,.inl hqa,?_⟩;walk_at"6";rw[bM];walk_at"6";refine⟨fun σ' H'=>Same H H'∧∃ v,σ'=[some (.int x),some (.ref pa),some (.ref pb),some (.int a.length),some (.int (BM.sumTo x a.length fa fb (a.length / 2):Nat)),v],?_,?_⟩
  ·refine⟨_,rfl,_,_,rfl,rfl,0,_,2,a.length / 2,rfl,⟨by decide,by decide,?_,?_⟩,ED (lo:=0) (c:=2) (n:=a.length / 2)
    (fun i σ' H'=>Same H H'∧∃ v,σ'=[some (.int x),some (.ref pa),some (.ref pb),some (.int a.length),some (.int (BM.sumTo x a.length fa fb i:Nat)),v]) ⟨Same.refl H,none,rfl⟩ ?_ (fun σ' H' h=>h)⟩
   ·unfold Builtin.Range.small;have fits:∀ z:Int, -1000000≤z→z≤1000000→Builtin.Range.rangeFitsLong z=true:=fun z h1 h2=>by
     unfold Builtin.Range.rangeFitsLong;simp only[aFg,decide_eq_true_eq];lia
    have e:Builtin.Range.rangeSize 0 ((a.length:Int)-1) 2=(a.length / 2:Nat):=by
     unfold Builtin.Range.rangeSize;rw[if_pos (by decide)]
     split <;> lia
    rw[e,fits _ (by decide) (by decide),fits _ (by lia) (by lia),fits _ (by decide) (by decide),fits _ (by lia) (by lia),if_pos (by decide),fits _ (by lia) (by lia)];simp
   ·unfold Builtin.Range.rangeSize;rw[if_pos (by decide)]
    split <;> lia
   ·rintro i σ' H' hi ⟨sm,v,rfl⟩;walk_at"6";refine⟨_,sm.seq hqa,_,cW (i:=2*i+1) (by lia) (by lia),_,sm.seq hqb,_,cW (i:=2*i+1) (by lia) (by lia),_,_,_,rfl,lt i,la _,lb _,fun H2 tF=>?_⟩;walk_at"6";have sm3:=sm.trans tF;refine⟨_,sm3.seq hqa,_,cW (i:=2*i) (by lia) (by lia),_,sm3.seq hqb,_,cW (i:=2*i) (by lia) (by lia),_,_,_,rfl,BM.iF (lt i) (la _) (lb _),la _,lb _,fun H4 EY=>?_⟩;refine⟨sm3.trans EY,?_⟩;refine⟨?_,_,rfl⟩;rw[BM.uN];unfold Br.pair BM.KO;dsimp only;rw[if_pos (show 2*i+1<a.length by lia),if_pos (show 2*i+1<a.length by lia),ga,ga,gb,gb]
  ·rintro σ' H' ⟨sm,v,rfl⟩;walk_at"6";refine⟨by decide,cZ (fun c=>?_) (fun c=>?_)⟩
   ·have odd:a.length % 2=1:=by
     have:=aFf c;lia
    refine⟨_,0,0,rfl,lt _,by decide,by decide,fun H2 tF=>?_⟩;walk_at"6";have sm3:=sm.trans tF;refine⟨_,sm3.seq hqa,_,cW (i:=a.length-1) (by lia) (by lia),_,sm3.seq hqb,_,cW (i:=a.length-1) (by lia) (by lia),_,_,_,rfl,BM.iF (lt _) (by decide) (by decide),la _,lb _,fun H4 EY=>?_⟩;have q:=k H4 (sm3.trans EY);have h1:a.length-1=2*(a.length / 2):=by lia
    rw[BM.IB,show (a.length+1) / 2=a.length / 2+1 from by lia,BM.uN] at q;unfold Br.pair BM.KO at q;dsimp only at q;rw[if_neg (show ¬2*(a.length / 2)+1<a.length by lia),if_neg (show ¬2*(a.length / 2)+1<a.length by lia),←h1,←ga,←gb] at q;walk_at"6";exact q
   ·have even:a.length % 2=0:=by
     have h0:¬((a.length:Int) % 2=1):=fun z=>c (aFc z);lia
    have q:=k H' sm;rw[BM.IB,show (a.length+1) / 2=a.length / 2 from by lia] at q;walk_at"6";exact q
end
local macro_rules | `(tactic| walk_at"0")=>sm false ([]) (dL1++P2++dL3++dL4++RX++mV++mL++lK++eS++fO++eM)
local macro_rules | `(tactic| walk_at"6")=>sm true ([]) (dL1++P2++dL3++dL4++RX++mV++mL++lK++eS++fO++eM)
structure J1(K:W.Frag)(mg:Str→Option Value):Prop extends Txt K mg where
 MOST_WIDE:GI mg "MOST_WIDE" 64
 BLOCK:GI mg "BLOCK" 16
abbrev GH:Stmt:=top 24
theorem OG:bJ ["n"] ["n"] (bC GH):=bV (by kernel_rfl)
abbrev CK:Stmt:=top 25
theorem KZ:bJ ["k"] ["k"] (bC CK):=bV (by kernel_rfl)
abbrev v0:Stmt:=top 26
theorem tO:bJ ["k","n","blocks"] ["k","n"] (bC v0):=bV (by kernel_rfl)
abbrev tT:Stmt:=top 27
theorem qR:bJ ["k","row","column","pair"] ["k","row","column"] (bC tT):=bV (by kernel_rfl)
abbrev QU:Stmt:=top 28
theorem CB:bJ ["k","n","shorts","woven","place"] ["k","n","shorts"] (bC QU):=bV (by kernel_rfl)
abbrev GC:Stmt:=top 29
theorem uU:bJ ["k","n","woven","place"] ["k","n","woven"] (bC GC):=bV (by kernel_rfl)
abbrev qY:Stmt:=top 30
theorem kZ:bJ ["k","woven","column","row"] ["k","woven","column"] (bC qY):=bV (by kernel_rfl)
abbrev GF:Stmt:=top 31
theorem iP:bJ ["m","k","n","a","woven","c","columns","column","total","i","row","j"] ["m","k","n","a","woven","c"] (bC GF):=bV (by kernel_rfl)
inductive gJ(vs:List V)(H:Hp)(Q:VK)(E:XK):Prop
 | mk (n:Nat) (_:vs=[.int n]) (_:Q (.bl (Br.sizeOk n)) H):gJ vs H Q E
inductive mZ(vs:List V)(H:Hp)(Q:VK)(E:XK):Prop
 | mk (k:Nat) (_:vs=[.int k]) (_:Q (.int ((k+1) / 2:Nat)) H):mZ vs H Q E
inductive eJ(vs:List V)(H:Hp)(Q:VK)(E:XK):Prop
 | mk (k n:Nat) (_:vs=[.int k,.int n]) (_:k≤64) (_:n≤64) (_:Q (.int (Br.woven k n:Nat)) H):eJ vs H Q E
inductive gI(vs:List V)(H:Hp)(Q:VK)(E:XK):Prop
 | mk (k r c:Nat) (_:vs=[.int k,.int r,.int c]) (_:k≤64) (_:r≤64) (_:c≤64) (_:Q (.int (Br.place k r c:Nat)) H):gI vs H Q E
inductive B4(K:W.Frag)(vs:List V)(H:Hp)(Q:VK)(E:XK):Prop
 | mk (k n:Nat) (p:Addr) (l:List Nat) (_:vs=[.int k,.int n,.ref p]) (_:cT K H p (nums l)) (_:1≤k) (_:k≤64) (_:1≤n) (_:n≤64) (_:l.length=k*n) (_:∀ (H':Hp) (q:Addr),Same H H'→H q=none→H' q=some (.lst (nums (Br.weave (fun i j=>l.toArray.getD (i*n+j) 0) k n)))→Q (.ref q) H'):B4 K vs H Q E
inductive uP(K:W.Frag)(vs:List V)(H:Hp)(Q:VK)(E:XK):Prop
 | mk (k n:Nat) (p:Addr) (l:List Nat) (_:vs=[.int k,.int n,.ref p]) (_:cT K H p (nums l)) (_:1≤k) (_:k≤64) (_:1≤n) (_:n≤64) (_:l.length=Br.woven k n) (_:∀ (H':Hp) (q:Addr),Same H H'→H q=none→H' q=some (.lst (nums ((List.range (k*n)).map fun p=>l.toArray.getD (Br.place k (p / n) (p % n)) 0)))→Q (.ref q) H'):uP K vs H Q E
inductive iH(K:W.Frag)(vs:List V)(H:Hp)(Q:VK)(E:XK):Prop
 | mk (k n c:Nat) (p:Addr) (l:List Nat) (_:vs=[.int k,.ref p,.int c]) (_:cT K H p (nums l)) (_:1≤k) (_:k≤64) (_:n≤64) (_:c<n) (_:l.length=Br.woven k n) (_:∀ (H':Hp) (q:Addr),Same H H'→H q=none→H' q=some (.lst (nums ((List.range k).map fun r=>l.getD (Br.place k r c) 0)))→Q (.ref q) H'):iH K vs H Q E
theorem fY{H H':Hp}{D:Addr}(sm:Same H H')(hD:H D=none)(o:HO):Same H (upd H' D o):=fun c u e=>by
 rw[bF (dR e hD)];exact sm c u e
theorem jX(f:Nat→Nat)(i:Nat):nums ((List.range i).map f)++[V.int (f i:Nat)]=nums ((List.range (i+1)).map f):=by
 unfold nums;rw[List.range_succ,aFC,aFC];rfl
theorem wT(l:List Nat)(x:Nat):nums l++[V.int (x:Nat)]=nums (l++[x]):=by
 unfold nums;rw[aFC];rfl
theorem jF(l:List Nat)(j x:Nat):(nums l).set j (V.int (x:Nat))=nums (l.set j x):=by
 unfold nums;rw[List.map_set]
section
variable{P:Program}{w:World}{K:W.Frag}{mg:Str→Option Value}{base:Heap}
theorem O2(D:Def K mg "is_size" GH ["n"])(T:J1 K mg):Own P w K mg base "is_size" ["n"] 1 gJ:=by
 refine D.own OG (fun vs H Q E h=>?_) (fun f cdv A outer s H vs Q E hr h=>?_)
 ·obtain⟨x,rfl,_⟩:=h;rfl
 ·obtain⟨n,rfl,k⟩:=h;refine⟨_,(bA (bI (VT aAs aAs a8 (pv 0) (cH rfl T.MOST_WIDE)))),?_⟩;walk_at"0";unfold Br.sizeOk Br.MOST at k;refine cZ (fun h=>?_) (fun h=>?_)
  ·rw[aFc (show 1≤n by have:=aFf h;lia),Bool.true_and] at k;rw[show decide ((n:Int)≤64)=decide (n≤64) from by congr 1;apply propext;lia];exact k
  ·rw[decide_eq_false (show ¬1≤n by intro z;exact h (aFc (by lia))),Bool.false_and] at k;exact k
theorem LT(D:Def K mg "pairs_of" CK ["k"]):Own P w K mg base "pairs_of" ["k"] 1 mZ:=by
 refine D.own KZ (fun vs H Q E h=>?_) (fun f cdv A outer s H vs Q E hr h=>?_)
 ·obtain⟨x,rfl,_⟩:=h;rfl
 ·obtain⟨n,rfl,k⟩:=h;refine⟨_,(bA (bI (bH pP (bH bX (pv 0) a8) a8))),?_⟩;walk_at"0";refine⟨⟨by decide,by decide⟩,?_⟩;rw[show ((n:Int)+1) / 2=(((n+1) / 2:Nat):Int) from by lia];exact k
theorem E8(D:Def K mg "woven_size" v0 ["k","n"])(T:J1 K mg)(j0:Own P w K mg base "pairs_of" ["k"] 1 mZ):Own P w K mg base "woven_size" ["k","n"] 2 eJ:=by
 refine D.own tO (fun vs H Q E h=>?_) (fun f cdv A outer s H vs Q E hr h=>?_)
 ·obtain⟨k,n,rfl,_⟩:=h;rfl
 ·obtain⟨k,n,rfl,hk,hn,q⟩:=h;refine⟨_,(aZ (bK (i:=2) tO.nd rfl (Or.inl rfl) (bH pP (bH eU (bH bX (pv 1) (cH rfl T.BLOCK)) a8) (cH rfl T.BLOCK)))
   (bA (bI (bH eC (bH eC (bH eC (pv 2) (bN j0 hr (by decide) rfl (aY (pv 0) a6))) (cH rfl T.BLOCK)) a8)))),?_⟩
  walk_at"0";refine⟨⟨by decide,by decide⟩,_,rfl,?_⟩;walk_at"0";refine⟨.inl ⟨by lia,by lia⟩,.inr ⟨by decide,by decide⟩,.inr ⟨by decide,by decide⟩,?_⟩;have e:((n:Int)+16-1) / 16*(((k+1) / 2:Nat):Int)*16*2=((Br.woven k n:Nat):Int):=by
   unfold Br.woven;rw[show ((n:Int)+16-1) / 16=(((n+15) / 16:Nat):Int) from by lia,←aFw];generalize (n+15) / 16*((k+1) / 2)=X;lia
  rw[e];exact q
theorem DH(D:Def K mg "woven_place" tT ["k","row","column"])(T:J1 K mg)(j0:Own P w K mg base "pairs_of" ["k"] 1 mZ):Own P w K mg base "woven_place" ["k","row","column"] 2 gI:=by
 refine D.own qR (fun vs H Q E h=>?_) (fun f cdv A outer s H vs Q E hr h=>?_)
 ·obtain⟨k,r,c,rfl,_⟩:=h;rfl
 ·obtain⟨k,r,c,rfl,hk,hr2,hc,q⟩:=h;refine⟨_,(aZ (bK (i:=3) qR.nd rfl (Or.inl rfl) (bH bX (bH eC (bH pP (pv 2) (cH rfl T.BLOCK)) (bN j0 hr (by decide) rfl (aY (pv 0) a6))) (bH pP (pv 1) a8)))
   (bA (bI (bH bX (bH eC (bH bX (bH eC (pv 3) (cH rfl T.BLOCK)) (bH yP (pv 2) (cH rfl T.BLOCK))) a8) (bH yP (pv 1) a8))))),?_⟩
  walk_at"0";refine⟨⟨by decide,by decide⟩,_,rfl,?_⟩;walk_at"0";refine⟨.inl ⟨by lia,by lia⟩,⟨by decide,by decide⟩,.inr ⟨by decide,by decide⟩,by decide,.inr ⟨by decide,by decide⟩,by decide,?_⟩;have e:(((c:Int) / 16*(((k+1) / 2:Nat):Int)+(r:Int) / 2)*16+(c:Int) % 16)*2+(r:Int) % 2=((Br.place k r c:Nat):Int):=by
   unfold Br.place;rw[show (c:Int) / 16=((c / 16:Nat):Int) from by lia,←aFw];generalize c / 16*((k+1) / 2)=X;lia
  rw[e];exact q
theorem VY(D:Def K mg "weave" QU ["k","n","shorts"])(T:J1 K mg)(cK:Own P w K mg base "woven_size" ["k","n"] 2 eJ)(eA:Own P w K mg base "woven_place" ["k","row","column"] 2 gI):
  Own P w K mg base "weave" ["k","n","shorts"] 3 (B4 K):=by
 refine D.own CB (fun vs H Q E h=>?_) (fun f cdv A outer s H vs Q E hr h=>?_)
 ·obtain⟨k,n,p,l,rfl,_⟩:=h;rfl
 ·obtain⟨k,n,p,l,rfl,hq,hk1,hk,hn1,hn,hl,q⟩:=h;refine⟨_,(aZ (bK (i:=3) CB.nd rfl (Or.inl rfl) (bH OR (cG (aY a8 a6)) (bN cK hr (by decide) rfl (aY (pv 0) (aY (pv 1) a6)))))
   (aZ (dG (jD PassesOwn.never rfl (eF rfl T.range (aY (bH eC (pv 0) (pv 1)) a6)) (dM (i:=4) CB.nd rfl (Or.inl rfl)) (bA (mD (cC bZ (pv 2) (pv 4) (fun _ _=>rfl)) (mE (pv 3) (bN eA hr (by decide) rfl (aY (pv 0) (aY (bH pP (pv 4) (pv 1)) (aY (bH yP (pv 4) (pv 1)) a6)))) set_list)))))
   (bA (bI (pv 3))))),?_⟩
  walk_at"6";refine⟨by decide,fun p1 hp1=>⟨k,n,rfl,hk,hn,_,rfl,_,a7,by lia,?_,?_,fun p2 hp2=>?_⟩⟩
  ·have:=BM.oG hk hn;lia
  ·have:=BM.oG hk hn;rw[aFl,sizeLine_eq];simp;lia
  have rep:(List.replicate ((Br.woven k n:Nat):Int).toNat [V.int 0]).flatten=nums (List.replicate (Br.woven k n) 0):=by
   rw[aFl];unfold nums;rw[List.map_replicate];generalize Br.woven k n=m
   induction m with
   | zero=>rfl
   | succ m ih=>rw[List.replicate_succ,aFI,ih,List.replicate_succ];rfl
  walk_at"6";rw[rep];have s1:Same H (upd H p1 (.lst [V.int 0])):=a9 hp1;have s2:∀ o,Same H (upd (upd H p1 (.lst [V.int 0])) p2 o):=fun o=>s1.trans (a9 hp2);refine⟨fun σ' H'=>Same H H'∧(∃ v,σ'=[some (.int k),some (.int n),some (.ref p),some (.ref p2),v])∧H' p2=some (.lst (nums (Br.weave (fun i j=>l.toArray.getD (i*n+j) 0) k n))),?_,?_⟩
  ·have hkn:k*n≤64*64:=Nat.mul_le_mul hk hn;have ekn:(k:Int)*(n:Int)=((k*n:Nat):Int):=(aFw _ _).symm;refine⟨_,rfl,_,rfl,_,_,rfl,rfl,.inl ⟨by lia,by lia⟩,_,rfl,by lia,by lia,fM (lo:=0) (n:=((k:Int)*(n:Int)).toNat)
    (fun i σ' H'=>Same H H'∧(∃ v,σ'=[some (.int k),some (.int n),some (.ref p),some (.ref p2),v])∧∃ out,H' p2=some (.lst (nums out))∧BM.xS k n l i out) ⟨s2 _,⟨_,rfl⟩,_,a7,BM.xS.start k n l⟩ ?_ ?_⟩
   ·rintro i σ' H' hi ⟨sm,⟨v,rfl⟩,out,h2,W⟩;rw[ekn,aFl] at hi;have hn0:0<n:=by lia
    have hr:i / n<k:=(aFT hn0).mpr hi;have hc:i % n<n:=aFN _ hn0;have hpl:=BM.place_lt hr hc;walk_at"6";refine⟨_,sm.seq hq,_,cW (i:=i) (by lia) (by lia),⟨by lia,by lia⟩,by lia,k,i / n,i % n,?_,hk,by lia,by lia,?_⟩
    ·rw[Int.zero_add];rfl
    refine⟨_,rfl,_,h2,Br.place k (i / n) (i % n),?_,fY sm (s1.free hp2) _,⟨_,rfl⟩,out.set (Br.place k (i / n) (i % n)) (l.getD i 0),by rw[a7,jF],W.turn hi⟩;unfold RM;rw[bM,W.len,if_pos (by lia),if_pos (by lia),aFl]
   ·rintro σ' H' ⟨sm,hv,out,h2,W⟩;rw[ekn,aFl] at W;refine⟨sm,hv,?_⟩;rw[←W.done];exact h2
  ·rintro σ' H' ⟨sm,⟨v,rfl⟩,h2⟩;walk_at"6";exact q H' p2 sm (s1.free hp2) h2
theorem OU(D:Def K mg "unweave" GC ["k","n","woven"])(T:J1 K mg)(eA:Own P w K mg base "woven_place" ["k","row","column"] 2 gI):
  Own P w K mg base "unweave" ["k","n","woven"] 3 (uP K):=by
 refine D.own uU (fun vs H Q E h=>?_) (fun f cdv A outer s H vs Q E hr h=>?_)
 ·obtain⟨k,n,p,l,rfl,_⟩:=h;rfl
 ·obtain⟨k,n,p,l,rfl,hq,hk1,hk,hn1,hn,hl,q⟩:=h;have hkn:k*n≤64*64:=Nat.mul_le_mul hk hn;have ekn:(k:Int)*(n:Int)=((k*n:Nat):Int):=(aFw _ _).symm;refine⟨_,(bA (bI (AC (own:=[("place",3)]) rfl uU.nd (eF rfl T.range (aY (bH eC (pv 0) (pv 1)) a6)) (oB (by kernel_rfl)) (fun _ _ _ _ _=>dM (i:=3) uU.nd rfl (Or.inl rfl)) (fun _ _ _ _ _=>kH) (fun _ _ _ _ _=>(cC D6 (pv 2) (bN eA hr (by decide) rfl (aY (pv 0) (aY (bH pP (pv 3) (pv 1)) (aY (bH yP (pv 3) (pv 1)) a6)))) (fun _ _=>rfl)))))),?_⟩;refine⟨_,rfl,_,rfl,_,_,rfl,rfl,.inl ⟨by lia,by lia⟩,_,rfl,by lia,by lia,fun D hD=>mJ (lo:=0) (n:=((k:Int)*(n:Int)).toNat)
   (fun i H'=>Same H H'∧H' D=some (.lst (nums ((List.range i).map fun p=>l.toArray.getD (Br.place k (p / n) (p % n)) 0)))) ⟨a9 hD,a7⟩ ?_ ?_⟩
  ·rintro i H' hi ⟨sm,h2⟩;rw[ekn,aFl] at hi;have hn0:0<n:=by lia
   have hr:i / n<k:=(aFT hn0).mpr hi;have hc:i % n<n:=aFN _ hn0;have hpl:=BM.place_lt hr hc;walk_at"0";refine⟨⟨by lia,by lia⟩,by lia,k,i / n,i % n,by rw[Int.zero_add];rfl,hk,by lia,by lia,_,rfl,_,sm.seq hq,_,cW (i:=Br.place k (i / n) (i % n)) (by lia) rfl,_,h2,?_,fY sm hD _,?_⟩
   ·rw[bM,aFd,aFy,sizeLine_eq];lia
   ·rw[a7,←BM.dO,jX fun p=>l.toArray.getD (Br.place k (p / n) (p % n)) 0]
  ·rintro H' ⟨sm,h2⟩;rw[ekn,aFl] at h2;exact q H' D sm hD h2
theorem AV(D:Def K mg "woven_column" qY ["k","woven","column"])(T:J1 K mg)(eA:Own P w K mg base "woven_place" ["k","row","column"] 2 gI):
  Own P w K mg base "woven_column" ["k","woven","column"] 3 (iH K):=by
 refine D.own kZ (fun vs H Q E h=>?_) (fun f cdv A outer s H vs Q E hr h=>?_)
 ·obtain⟨k,n,c,p,l,rfl,_⟩:=h;rfl
 ·obtain⟨k,n,c,p,l,rfl,hq,hk1,hk,hn,hc,hl,q⟩:=h;refine⟨_,(bA (bI (AC (own:=[("row",3)]) rfl kZ.nd (eF rfl T.range (aY (pv 0) a6)) (oB (by kernel_rfl)) (fun _ _ _ _ _=>dM (i:=3) kZ.nd rfl (Or.inl rfl)) (fun _ _ _ _ _=>kH) (fun _ _ _ _ _=>(cC D6 (pv 1) (bN eA hr (by decide) rfl (aY (pv 0) (aY (pv 3) (aY (pv 2) a6)))) (fun _ _=>rfl)))))),?_⟩;refine⟨_,rfl,_,rfl,by lia,by lia,fun D hD=>mJ (lo:=0) (n:=(k:Int).toNat)
   (fun i H'=>Same H H'∧H' D=some (.lst (nums ((List.range i).map fun r=>l.getD (Br.place k r c) 0)))) ⟨a9 hD,a7⟩ ?_ ?_⟩
  ·rintro i H' hi ⟨sm,h2⟩;rw[aFl] at hi;have hpl:=BM.place_lt hi hc;walk_at"0";refine⟨k,i,c,by rw[Int.zero_add],hk,by lia,by lia,_,rfl,_,sm.seq hq,_,cW (i:=Br.place k i c) (by lia) rfl,_,h2,?_,fY sm hD _,?_⟩
   ·rw[bM,aFd,aFy,sizeLine_eq];lia
   ·rw[a7,jX fun r=>l.getD (Br.place k r c) 0]
  ·rintro H' ⟨sm,h2⟩;rw[aFl] at h2;exact q H' D sm hD h2
def pL(k n:Nat)(a wv c:List Nat)(t:Nat):Nat:=Br.sum (c.getD t 0) (Br.twos k (fun i=>a.getD (t / n*k+i) 0) fun i=>wv.getD (Br.place k i (t % n)) 0)
inductive uR(K:W.Frag)(vs:List V)(H:Hp)(Q:VK)(E:XK):Prop
 | mk (m k n:Nat) (pa pw pc:Addr) (a wv c:List Nat) (_:vs=[.int m,.int k,.int n,.ref pa,.ref pw,.ref pc]) (_:cT K H pa (nums a)) (_:cT K H pw (nums wv)) (_:cT K H pc (nums c)) (_:1≤m) (_:m≤64) (_:1≤k) (_:k≤64) (_:1≤n) (_:n≤64) (_:a.length=m*k) (_:wv.length=Br.woven k n) (_:c.length=m*n) (_:(∀ x∈a,x<65536)) (_:(∀ x∈wv,x<65536)) (_:(∀ x∈c,x<4294967296)) (_:∀ (H':Hp) (q:Addr),Same H H'→H q=none→H' q=some (.lst (nums ((List.range (m*n)).map (pL k n a wv c))))→Q (.ref q) H'):uR K vs H Q E
theorem EH{l:List Nat}{o k:Nat}{x y:Int}(hx:x=(o:Nat))(hy:y=(o+k:Nat))(h:o+k≤l.length):mN (nums l) (some x) (some y)=nums ((l.drop o).take k):=by
 subst hx hy;unfold mN;rw[bM,HT.pJ,HT.pJ,Nat.min_eq_left h,Nat.min_eq_left (show o≤l.length by lia),show o+k-o=k from by lia];unfold nums;rw[←List.map_drop,←List.map_take]
structure zN(H:Hp)(D:Addr)(cols:List Addr)(k:Nat)(wv:List Nat)(i:Nat):Prop where
 lst:H D=some (.lst (cols.map V.ref))
 len:cols.length=i
 at_:∀ (j:Nat) (x:Addr),cols[j]?=some x→H x=some (.lst (nums ((List.range k).map fun r=>wv.getD (Br.place k r j) 0)))∧x≠D
theorem zN.keep{H H':Hp}{D:Addr}{cols:List Addr}{k i:Nat}{wv:List Nat}(C:zN H D cols k wv i)(sm:Same H H'):zN H' D cols k wv i:=
 ⟨sm _ _ C.lst,C.len,fun j x h=>⟨sm _ _ (C.at_ j x h).1,(C.at_ j x h).2⟩⟩
theorem zN.put{H:Hp}{D p:Addr}{cols:List Addr}{k i:Nat}{wv:List Nat}{o:HO}(C:zN H D cols k wv i)(h1:D≠p)(h2:∀ x∈cols,x≠p):zN (upd H p o) D cols k wv i:=
 ⟨by rw[bF h1];exact C.lst,C.len,fun j x h=>⟨by rw[bF (h2 x (aFO h))];exact(C.at_ j x h).1,(C.at_ j x h).2⟩⟩
theorem zN.add{H H2:Hp}{D x:Addr}{cols:List Addr}{k i:Nat}{wv:List Nat}(C:zN H D cols k wv i)(sm:Same H H2)(hx:H x=none)(hl:H2 x=some (.lst (nums ((List.range k).map fun r=>wv.getD (Br.place k r i) 0)))):
  zN (upd H2 D (.lst (cols.map V.ref++[V.ref x]))) D (cols++[x]) k wv (i+1):=by
 have hxD:x≠D:=fun z=>by
  rw[z,C.lst] at hx;cases hx
 refine⟨by rw[a7,aFC];rfl,by rw[aFb,C.len];rfl,fun j y h=>?_⟩;by_cases hj:j<cols.length
 ·rw[aFK hj] at h;obtain⟨h1,h2⟩:=C.at_ j y h;exact⟨by rw[bF h2];exact sm _ _ h1,h2⟩
 ·rw[aFu (by lia)] at h;have e:j=cols.length:=by
   have:=(aFQ.mp h).1;simp at this;lia
  subst e;rw[Nat.sub_self] at h;obtain rfl:x=y:=aFa h;rw[C.len];exact⟨by rw[bF hxD];exact hl,hxD⟩
theorem OY(D:Def K mg "product" GF ["m","k","n","a","woven","c"])(T:J1 K mg)(fQ:Own P w K mg base "woven_column" ["k","woven","column"] 3 (iH K))(gX:Own P w K mg base "row_sum" ["s","a","b"] 4 (lT K)):
  Own P w K mg base "product" ["m","k","n","a","woven","c"] 5 (uR K):=by
 refine D.own iP (fun vs H Q E h=>?_) (fun f cdv A outer s H vs Q E hr h=>?_)
 ·obtain⟨m,k,n,pa,pw,pc,a,wv,c,rfl,_⟩:=h;rfl
 ·obtain⟨m,k,n,pa,pw,pc,a,wv,c,rfl,hqa,hqw,hqc,hm1,hm,hk1,hk,hn1,hn,hla,hlw,hlc,ha,hw,hc,q⟩:=h;have hmn:m*n≤64*64:=Nat.mul_le_mul hm hn;refine⟨_,(aZ (LF (i:=6) (own:=[("column",7)]) rfl iP.nd rfl rfl (QO rfl rfl rfl rfl) (eF rfl T.range (aY (pv 2) a6)) (oB (by kernel_rfl)) (fun _ _ _ _ _=>dM (i:=7) iP.nd rfl (Or.inl rfl)) (fun _ _ _ _ _=>kH) (fun _ _ _ _ _=>(bN fQ hr (by decide) rfl (aY (pv 1) (aY (pv 4) (aY (pv 7) a6))))))
   (aZ (bK (i:=8) iP.nd rfl (Or.inl rfl) (cG a6))
   (aZ (dG (jD PassesOwn.never rfl (eF rfl T.range (aY (pv 0) a6)) (dM (i:=9) iP.nd rfl (Or.inl rfl)) (aZ (bK (i:=10) iP.nd rfl (Or.inl rfl) (jE m9 (pv 3) (gU (bH eC (pv 9) (pv 1))) (gU (bH eC (bH bX (pv 9) a8) (pv 1)))))
   (bA (dG (jD PassesOwn.never rfl (eF rfl T.range (aY (pv 2) a6)) (dM (i:=11) iP.nd rfl (Or.inl rfl)) (bA (dA (o0 PySem.F.plainAttrs_list PySem.F.slot_list_append PySem.F.type_list_append fK (pv 8) (aY (bN gX hr (by decide) rfl (aY (cC bZ (pv 5) (bH bX (bH eC (pv 9) (pv 2)) (pv 11)) (fun _ _=>rfl)) (aY (pv 10) (aY (cC bZ (pv 6) (pv 11) (fun _ _=>rfl)) a6)))) a6))))))))))
   (bA (bI (pv 8)))))),?_⟩
  refine⟨_,rfl,_,rfl,by lia,by lia,fun D hD=>mJ (lo:=0) (n:=(n:Int).toNat) (fun i H'=>Same H H'∧∃ cols,zN H' D cols k wv i) ⟨a9 hD,[],a7,rfl,fun j x h=>by simp at h⟩ ?_ ?_⟩
  ·rintro i H' hi ⟨sm,cols,C⟩;rw[aFl] at hi;walk_at"0";refine⟨k,n,i,pw,wv,by rw[Int.zero_add],sm.seq hqw,hk1,hk,hn,hi,hlw,fun H2 x tF hx hl=>?_⟩;have C':=C.add tF hx hl;exact⟨_,tF _ _ C.lst,by rw[aFd,C.len,sizeLine_eq];lia,fY (sm.trans tF) hD _,_,C'⟩
  rintro H1 ⟨OD,cols,C⟩;rw[aFl] at C;walk_at"0";refine⟨by decide,fun pt hpt=>?_⟩;have Dpt:D≠pt:=dR C.lst hpt;have xpt:∀ x∈cols,x≠pt:=fun x hx=>by
   obtain⟨j,hj⟩:=List.getElem?_of_mem hx;exact dR (C.at_ j x hj).1 hpt
  have fpt:H pt=none:=OD.free hpt;refine⟨fun σ' H'=>Same H H'∧(∃ v1 v2 v3,σ'=[some (.int m),some (.int k),some (.int n),some (.ref pa),some (.ref pw),some (.ref pc),some (.ref D),none,some (.ref pt),v1,v2,v3])∧H' pt=some (.lst (nums ((List.range (m*n)).map (pL k n a wv c)))),?_,?_⟩
  ·refine⟨_,rfl,_,rfl,by lia,by lia,fM (lo:=0) (n:=(m:Int).toNat)
    (fun i σ' H'=>Same H H'∧(∃ v1 v2 v3,σ'=[some (.int m),some (.int k),some (.int n),some (.ref pa),some (.ref pw),some (.ref pc),some (.ref D),none,some (.ref pt),v1,v2,v3])∧zN H' D cols k wv n∧H' pt=some (.lst (nums ((List.range (i*n)).map (pL k n a wv c)))))
    ⟨OD.trans (a9 hpt),⟨_,_,_,rfl⟩,C.put Dpt xpt,by rw[a7,Nat.zero_mul];rfl⟩ ?_ ?_⟩
   ·rintro i σ' H' hi ⟨sm,⟨v1,v2,v3,rfl⟩,C',ht⟩;rw[aFl] at hi;have hik:i*k+k≤m*k:=by
     have h:=Nat.mul_le_mul_right k (Nat.succ_le_of_lt hi);rw[Nat.succ_mul] at h;exact h
    have hin:i*n+n≤m*n:=by
     have h:=Nat.mul_le_mul_right n (Nat.succ_le_of_lt hi);rw[Nat.succ_mul] at h;exact h
    walk_at"0";refine⟨.inl ⟨by lia,by lia⟩,.inl ⟨by lia,by lia⟩,_,sm.seq hqa,fun pr hpr=>?_⟩;rw[EH (o:=i*k) (k:=k) (by rw[Int.zero_add,aFw]) (by rw[Int.zero_add,←Nat.succ_mul,aFw];rfl) (by lia)];have sr:Same H' (upd H' pr (.lst (nums ((a.drop (i*k)).take k)))):=a9 hpr;have aDM:pr≠pt:=fun z=>by
     rw[z,ht] at hpr;cases hpr
    refine⟨fun σ' H'=>Same H H'∧(∃ v1 v2 v3,σ'=[some (.int m),some (.int k),some (.int n),some (.ref pa),some (.ref pw),some (.ref pc),some (.ref D),none,some (.ref pt),v1,v2,v3])∧zN H' D cols k wv n∧H' pt=some (.lst (nums ((List.range ((i+1)*n)).map (pL k n a wv c)))),?_,fun _ _ h=>h⟩;refine⟨_,rfl,_,rfl,by lia,by lia,fM (lo:=0) (n:=(n:Int).toNat)
     (fun j σ' H'=>Same H H'∧(∃ v3,σ'=[some (.int m),some (.int k),some (.int n),some (.ref pa),some (.ref pw),some (.ref pc),some (.ref D),none,some (.ref pt),some (.int (0+(i:Nat))),some (.ref pr),v3])∧zN H' D cols k wv n∧H' pr=some (.lst (nums ((a.drop (i*k)).take k)))∧H' pt=some (.lst (nums ((List.range (i*n+j)).map (pL k n a wv c)))))
     ⟨sm.trans sr,⟨_,rfl⟩,C'.keep sr,a7,sr _ _ ht⟩ ?_ ?_⟩
    ·rintro j σ' H3 hj ⟨sm3,⟨v3,rfl⟩,C3,xD,ht3⟩;rw[aFl] at hj;obtain⟨x,hx⟩:∃ x,cols[j]?=some x:=⟨_,aFv (by rw[C3.len];exact hj)⟩;obtain⟨hx1,hx2⟩:=C3.at_ j x hx;have hlr:((a.drop (i*k)).take k).length=k:=by
      rw[aFq,aFp];lia
     obtain⟨d1,d2⟩:=BM.GM (i:=i) hj;walk_at"0";refine⟨.inl ⟨rfl,_,cT.of ht3⟩,.inl ⟨by lia,by lia⟩,_,sm3.seq hqc,_,cW (i:=i*n+j) (by lia) (by rw[Int.natCast_add,aFw,Int.zero_add,Int.zero_add]),_,cT.of C3.lst,_,at_of (j:=j) (v:=V.ref x) (by lia) (by rw[aFH,hx];rfl),?_⟩;refine⟨_,pr,x,(a.drop (i*k)).take k,(List.range k).map fun r=>wv.getD (Br.place k r j) 0,rfl,cT.of xD,cT.of hx1,by rw[hlr,aFd,aFy],by lia,BM.dB (by decide) hc _,fun y hy=>ha y (BM.wY hy),?_,fun H4 EY=>?_⟩
     ·intro y hy;(refine aA (aFz.mp hy) fun r _ bO=>?_;subst bO);exact BM.dB (by decide) hw _
     ·walk_at"0";refine⟨_,EY _ _ ht3,?_,fY (sm3.trans EY) fpt _,⟨_,rfl⟩,(C3.keep EY).put Dpt xpt,?_,?_⟩
      ·rw[bM,aFd,aFy,sizeLine_eq];lia
      ·rw[bF aDM];exact EY _ _ xD
      ·rw[a7,←Nat.add_assoc,←jX];congr 3;unfold pL;rw[d1,d2,hlr];congr 3;exact congrArg (Br.sum _) (BM.uK (fun _ h=>BM.rW h) fun _ h=>BM.rV _ h)
    ·rintro σ' H' ⟨sm3,⟨v3,rfl⟩,C3,xD,ht3⟩;rw[aFl,←Nat.succ_mul] at ht3;exact⟨sm3,⟨_,_,_,rfl⟩,C3,ht3⟩
   ·rintro σ' H' ⟨sm,hv,C',ht⟩;rw[aFl] at ht;exact⟨sm,hv,ht⟩
  ·rintro σ' H' ⟨sm,⟨v1,v2,v3,rfl⟩,ht⟩;walk_at"0";exact q H' pt sm fpt ht
end
def KDI(K:W.Frag)(C:Addr)(kvs:List (Int×V)):Prop:=
 (C==sysModules)=false∧(kvs.map (·.1)).Nodup∧∃ (o:Obj) (l:List (Int×Tok×Value)) (ep:Nat),K.lookup C=some o∧o.ExactDict∧o.data= .dict (l.map fun q=>(⟨hashInt q.1,.int q.1 q.2.1,q.2.2⟩:DictEntry)).toArray ep ∧
  Paired (fun (p:Int×V) (q:Int×Tok×Value)=>p.1=q.1∧RelV p.2 q.2.2) kvs l
def keyed(kvs:List (Int×V)):List (Key×V):=kvs.map fun p=>(Sum.inl p.1,p.2)
theorem AG:∀ {kvs:List (Int×V)},(kvs.map (·.1)).Nodup→((keyed kvs).map (·.1)).Nodup
 | [],_=>List.nodup_nil
 | p::r,h=>by
  rw[List.map_cons,aFB] at h;show (Sum.inl p.1::(keyed r).map (·.1)).Nodup;rw[aFB];refine⟨fun q=>h.1 ?_,AG h.2⟩;refine aA (aFz.mp q) fun x hx ex=>?_;(refine aA (aFz.mp hx) fun y hy bO=>?_;subst bO);exact aFz.mpr ⟨y,hy,Sum.inl.inj ex⟩
theorem KDI.dict{P:Program}{w:World}{K:W.Frag}{C:Addr}{kvs:List (Int×V)}{h:Heap}(d:KDI K C kvs)(X:K.In h):(C==sysModules)=false∧∃ vs,KV (keyed kvs) vs∧h.DictOf (nJ P w) C vs:=by
 obtain⟨hs,nd,o,l,ep,hl,ex,hd,r⟩:=d;refine⟨hs,l.map fun q=>(Sum.inl q.1,q.2.2),?_,o,_,ep,X _ _ hl,ex,hd,?_,?_,?_⟩
 ·clear hl hd nd;unfold KV keyed
  induction r with
  | nil=>exact .nil
  | cons h t ih=>exact .cons ⟨congrArg Sum.inl h.1,h.2⟩ ih
 ·intro e he;have he':e∈l.map fun q=>(⟨hashInt q.1,.int q.1 q.2.1,q.2.2⟩:DictEntry):=by simpa using he
  (refine aA (aFz.mp he') fun q _ bO=>?_;subst bO);exact⟨Sum.inl q.1,rN P w _ _,rfl⟩
 ·show Pairs _ (l.map fun q=>(⟨hashInt q.1,.int q.1 q.2.1,q.2.2⟩:DictEntry)) _;clear hl hd nd r
  induction l with
  | nil=>exact .nil
  | cons q r ih=>exact .cons (rN P w _ _) rfl ih
 ·have e:(l.map fun q=>((Sum.inl q.1:Key),q.2.2)).map (·.1)=(keyed kvs).map (·.1):=by
   clear hl hd nd;unfold keyed
   induction r with
   | nil=>rfl
   | cons h t ih=>
    rw[List.map_cons,List.map_cons,List.map_cons,List.map_cons,ih];dsimp only;rw[h.1]
  rw[e];exact AG nd
def U4(K:W.Frag)(td ty:TE):TE:=fun σ H Q=>td σ H fun x H1=>ty σ H1 fun y H2=>∃ C kvs n v,x= .ref C∧y= .int n∧KDI K C kvs∧kvs.lookup n=some v∧Q v H2
theorem qH:∀ (kvs:List (Int×V)) (n:Int),KM (keyed kvs) (Sum.inl n:Key)=kvs.lookup n
 | [],n=>rfl
 | p::r,n=>by
  have ih:=qH r n;unfold KM at ih ⊢;show ((Sum.inl p.1,p.2)::keyed r |>.find? fun kv=>decide (kv.1=(Sum.inl n:Key))).map (·.2)=_;obtain⟨k,v⟩:=p;by_cases e:k=n
  ·subst e;rw[List.find?_cons_of_pos (by simp),aFD,beq_self_eq_true];rfl
  ·have e1:¬(Sum.inl k:Key)=Sum.inl n:=fun q=>e (Sum.inl.inj q);have e2:(n==k)=false:=aFG.mpr fun q=>e q.symm;rw[List.find?_cons_of_neg (by simpa using e1),aFD,e2];exact ih
theorem Q3{X:Cx}{o i:Expr}{td ty:TE}{pos:Pos}(ho:PE X o td)(hi:PE X i ty)(hs:aDc i):PE X (.Subscript o i pos) (U4 X.K td ty):=by
 intro pins s σ H Q I h;refine YH PySem.F.slot_dict_getitem.lookup hs (eR (ho pins s σ H _ I h) fun u s1 bO=>aB bO fun x H1 I1 rx q1=>eR (hi pins s1 σ H1 _ I1 q1) fun iv s2 cA=>aB cA fun y H2 I2 ry dF=>aE dF fun C kvs n eX=>aO eX fun v ex ey d l q2=>?_);subst ex ey;obtain rfl:u=Value.ref C:=rx;(refine aD (d.dict (P:=X.prog) (w:=X.w) I2.D3) fun hs2 hE=>?_;refine aA hE fun vs rel dd=>?_);refine aA (xU.some_of (v:=v) (o:=valueAt vs (Sum.inl n)) (by rw[←l,←qH];exact rel.val _)) fun w' hw rw'=>?_;exact⟨dd.typeIs,wpAny_getItem_of (aAu (k:=Sum.inl n) ry) dd.mapOf hw ⟨v,H2,I2.tok _,rw',q2⟩⟩
def N0(K:W.Frag)(td ty tx:TE):TE:=fun σ H Q=>td σ H fun x H1=>∃ C kvs,x= .ref C∧KDI K C kvs∧ty σ H1 fun y H2=>tx σ H2 fun z H3=>∃ n,y= .int n∧Q ((kvs.lookup n).getD z) H3
theorem LL{X:Cx}{o e f:Expr}{td ty tx:TE}{apos cpos:Pos}(ho:PE X o td)(he:PE X e ty)(hf:PE X f tx)(m:M2 X o "get" apos e f cpos):PE X (.Call (.Attribute o "get" apos) [e,f] [] cpos) (N0 X.K td ty tx):=by
 intro pins s σ H Q I h;refine wpAny_Call_method m.base m.few m.line PySem.F.plainAttrs_dict PySem.F.slot_dict_get PySem.F.type_dict_get (eR (ho pins s σ H _ I h) fun u s1 bO=>aB bO fun x H1 I1 rx cA=>aB cA fun C kvs ex d q1=>?_);subst ex;obtain rfl:u=Value.ref C:=rx;(refine aD (d.dict (P:=X.prog) (w:=X.w) I1.D3) fun hs dF=>?_;refine aA dF fun vs rel dd=>?_);refine⟨dd.typeIs,fun b q=>?_,?_⟩
 ·cases q;refine aJ dd fun ob _ _ h1 h2 _=>?_;exact⟨ob,h1,h2.2.1⟩
 rw[m.trees];refine Calls.callWith_builtin rfl (Calls.evalArgs_plain (Calls.spliced_cons (eR (he pins s1 σ H1 _ I1 q1) fun iv s2 eX=>aB eX fun y H2 I2 ry q2=>
  Calls.spliced_cons (eR (hf pins s2 σ H2 _ I2 q2) fun fv s3 hE=>aB hE fun z H3 I3 rz p9=>aA p9 fun n ey q3=>Calls.spliced_nil ?_))))
 subst ey;(refine aD (d.dict (P:=X.prog) (w:=X.w) I3.D3) fun hs3 AS=>?_;refine aA AS fun vs3 aDH dd3=>?_);refine call_meetsIn PySem.F.slot_dict_get dd3.typeIs PySem.F.entry_dict_get (PySem.F.args_dict_get_3 _ _ _) (meets_dict_get_default (nJ X.prog X.w) C (aAu (k:=Sum.inl n) ry) hs3 fv) ⟨_,dd3.mapOf,_,H3,I3.tok _,?_,q3⟩;rw[←qH];exact(aDH.val (Sum.inl n)).getD rz
def EM(P:Program)(w:World)(K:W.Frag)(mg:Str→Option Value)(base:Heap)(f:Addr)(ps:List Str)(k:Nat)(sp:Sp):Prop:=
 ∃ fd,W.keepIn K (.ref f)=true∧Binds K fd ps []∧mU P w K mg base R9 k f fd ps sp
theorem Own.at{P:Program}{w:World}{K:W.Frag}{mg:Str→Option Value}{base:Heap}{x:Str}{ps:List Str}{k:Nat}{sp:Sp}{f:Addr}(O:Own P w K mg base x ps k sp)(h:mg x=some (.ref f)):EM P w K mg base f ps k sp:=by
 refine aN O fun f' fd hm kp b G=>?_;rw[h] at hm;cases hm;exact⟨fd,kp,b,G⟩
def N4(P:Program)(w:World)(K:W.Frag)(mg:Str→Option Value)(base:Heap)(k:Nat)(tf:TE)(t:TA):TE:=fun σ H Q=>tf σ H fun x H1=>∃ f ps sp,x= .ref f∧EM P w K mg base f ps k sp∧t σ H1 fun vs H2=>sp vs H2 Q E0
theorem LM{X:Cx}{fe:Expr}{tf:TE}{j k:Nat}{e:Expr}{es:List Expr}{t:TA}{pos:Pos}(hf:PE X fe tf)(hr:f8 k X.A)(hjk:j≤k)(ha:PA X (e::es) t)
  (hc:eval (.Call fe (e::es) [] pos) X.env=(do callWith pos (←eval fe X.env) [] (backTo pos (starEach (e::es) X.env)) (backToKw pos (keywordEach [] X.env))):=by rfl)
  (he:starEach (e::es) X.env=(false,eval e X.env)::starEach es X.env:=by rfl) (hpl:(backTo pos (starEach es X.env)).any (·.1)=false:=by rfl):
  PE X (.Call fe (e::es) [] pos) (N4 X.prog X.w X.K X.mg X.base j tf t):=by
 intro pins s σ H Q I h;refine Call_ (eR (hf pins s σ H _ I h) fun u s1 bO=>aB bO fun x H1 I1 rx cA=>aJ cA fun f ps sp ex O q1=>?_) hc;subst ex;obtain rfl:u=Value.ref f:=rx;refine aC O fun fd kp b G=>?_;refine W.callWith_K (h₀:=X.base) I1.ok.mod.kin kp (eR (ha pos pins s1 σ H1 _ I1 q1) fun us s2 dF=>aB dF fun vs H2 I2 r q=>⟨I2.D3,?_⟩) he hpl;refine IN G (hr.mono hjk) b .nil GU I2 r ?_;rw[List.append_nil];exact q
def pV(K:W.Frag)(C:Addr)(m qual:Str)(st:Stmt)(ps:List Str):Prop:=∃ f fd,Meth K C m f∧Fun K m qual st f fd∧Binds K fd ps []
def cV(P:Program)(w:World)(K:W.Frag)(mg:Str→Option Value)(base:Heap)(C:Addr)(m:Str)(ps:List Str)(k:Nat)(sp:Sp):Prop:=
 Cls K C∧∃ f fd,Meth K C m f∧Binds K fd ps []∧mU P w K mg base R9 k f fd ps sp
section
variable{P:Program}{w:World}{K:W.Frag}{mg:Str→Option Value}{base:Heap}
theorem pV.own{C:Addr}{m qual:Str}{st:Stmt}{N ps:List Str}{k:Nat}{sp:Sp}(D:pV K C m qual st ps)(c:Cls K C)(S:bJ N ps (bC st))(len:∀ vs H Q E,sp vs H Q E→vs.length=ps.length)
  (hbody:∀ (f:Addr) (cdv:Value) (A:Around) (outer:List Env) (s:Shared) (H:Hp) (vs:List V) (Q:VK) (E:XK),f8 k (A.deeper (envOfC qual (bC st) s.heap.objs.size f cdv))→sp vs H Q E →
   ∃ t,MZ (A4 R9 P w K mg base N qual (bC st) f cdv A outer s H E).X0 (cX st) t∧t {nx:=fun _ H'=>Q .non H',rt:=Q} (L2.start N vs) H):cV P w K mg base C m ps (k+1) sp:=by
 refine aB D fun f fd hm F b=>?_;exact⟨c,f,fd,hm,b,F.ok S len (hbody f)⟩
end
theorem oY{X:Cx}{C:Addr}{m:Str}{ps:List Str}{j k:Nat}{sp:Sp}{o e:Expr}{es:List Expr}{ta:TE}{t:TA}{apos pos:Pos}{pl:Sem Bool}(O:cV X.prog X.w X.K X.mg X.base C m ps j sp)(hr:f8 k X.A)(hjk:j≤k)(he:PE X o ta)(ha:PA X (e::es) t)
  (hst:starEach (e::es) X.env=(false,eval e X.env)::starEach es X.env:=by rfl) (hpl:(backTo pos (starEach es X.env)).any (·.1)=false:=by rfl)
  (ht:eval (.Call (.Attribute o m apos) (e::es) [] pos) X.env=(do
   let ov ←eval o X.env
   standAt apos.atName
   let (f,first) ←holding [ov] (getMethod ov m pl)
   callWith pos f first (backTo pos (starEach (e::es) X.env)) (backToKw pos (keywordEach [] X.env))):=by rfl):PE X (.Call (.Attribute o m apos) (e::es) [] pos) (zQ C m sp [] E0 ta t):=by
 (refine aD O fun c bO=>?_;refine aB bO fun f fd hm b G=>?_);exact YW he c hm G (hr.mono hjk) b .nil GU ha hst hpl ht
theorem cJ{X:Cx}{C:Addr}{m:Str}{ps:List Str}{j k:Nat}{sp:Sp}{o:Expr}{ta:TE}{apos pos:Pos}{pl:Sem Bool}(O:cV X.prog X.w X.K X.mg X.base C m ps j sp)(hr:f8 k X.A)(hjk:j≤k)(he:PE X o ta)
  (ht:eval (.Call (.Attribute o m apos) [] [] pos) X.env=(do
   let ov ←eval o X.env
   standAt apos.atName
   let (f,first) ←holding [ov] (getMethod ov m pl)
   callWith pos f first (backTo pos (starEach [] X.env)) (backToKw pos (keywordEach [] X.env))):=by rfl):PE X (.Call (.Attribute o m apos) [] [] pos) (zQ C m sp [] E0 ta SN):=by
 (refine aD O fun c bO=>?_;refine aB bO fun f fd hm b G=>?_);exact VR he c hm G (hr.mono hjk) b .nil GU ht
def EV(P:Program)(w:World)(K:W.Frag)(mg:Str→Option Value)(base:Heap)(x:Str)(C:Addr)(ps:List Str)(k:Nat)(sp:Sp):Prop:=
 mg x=some (.ref C)∧∃ f fd,Mk K C f∧Binds K fd ps []∧mU P w K mg base R9 k f fd ps sp
theorem DC{X:Cx}{x:Str}{C:Addr}{ps:List Str}{j k:Nat}{sp:Sp}{e:Expr}{es:List Expr}{t:TA}{p pos:Pos}(O:EV X.prog X.w X.K X.mg X.base x C ps j sp)(hr:f8 k X.A)(hjk:j+1≤k)(hg:Gl X x)(ha:PA X (e::es) t)
  (hdb:(x==("__debug__":Str))=false:=by decide) (he:starEach (e::es) X.env=(false,eval e X.env)::starEach es X.env:=by rfl) (hpl:(backTo pos (starEach es X.env)).any (·.1)=false:=by rfl):
  PE X (.Call (.Name x p) (e::es) [] pos) (zR C sp [] E0 t):=by
 (refine aD O fun hm bO=>?_;refine aB bO fun f fd M b G=>?_);exact YX M G (hr.mono hjk) hg hm b .nil GU ha hdb he hpl
theorem aBg{X:Cx}{x:Str}{C:Addr}{ps:List Str}{j k:Nat}{sp:Sp}{p pos:Pos}(O:EV X.prog X.w X.K X.mg X.base x C ps j sp)(hr:f8 k X.A)(hjk:j+1≤k)(hg:Gl X x)(hdb:(x==("__debug__":Str))=false:=by decide):
  PE X (.Call (.Name x p) [] [] pos) (zR C sp [] E0 SN):=by
 (refine aD O fun hm bO=>?_;refine aB bO fun f fd M b G=>?_);exact VS M G (hr.mono hjk) hg hm b .nil GU hdb
def But(p:Addr)(H H':Hp):Prop:=∀ b o,H b=some o→b≠p→H' b=some o
theorem But.refl(p:Addr)(H:Hp):But p H H:=fun _ _ h _=>h
theorem But.trans{p:Addr}{H H1 H2:Hp}(a:But p H H1)(b:But p H1 H2):But p H H2:=fun c o h hc=>b c o (a c o h hc) hc
theorem But.of{p:Addr}{H H':Hp}(a:Same H H'):But p H H':=fun c o h _=>a c o h
theorem dW{p:Addr}{H:Hp}{o:HO}:But p H (upd H p o):=fun c u h hc=>by
 rw[bF hc];exact h
def NeK(K:W.Frag)(a p:Addr)(xs:List V):Prop:=a≠p∨∀ H',cT K H' a xs
theorem JV{K:W.Frag}{p a:Addr}{H H':Hp}{xs:List V}(b:But p H H')(ha:NeK K a p xs)(h:cT K H a xs):cT K H' a xs:=by
 rcases ha with ha | ha
 case inr=>exact ha H'
 rcases h with (h | ⟨o,h⟩) | h
 ·exact .inl (.inl (b _ _ h ha))
 ·exact .inl (.inr ⟨o,b _ _ h ha⟩)
 ·exact .inr h
local macro_rules | `(tactic| walk_at"0")=>sm false ([]) (dL1++P2++dL4++RX++mV++mL++lK++eS)
local macro_rules | `(tactic| walk_at"6")=>sm true ([]) (dL1++P2++dL4++RX++mV++mL++lK++eS)
abbrev oX:Stmt:=inClass (top 94) 0
theorem vZ:bJ ["self","numbers"] ["self","numbers"] (bC oX):=bV (by kernel_rfl)
abbrev oW:Stmt:=inClass (top 94) 1
theorem vY:bJ ["self"] ["self"] (bC oW):=bV (by kernel_rfl)
abbrev lB:Stmt:=inClass (top 94) 2
theorem qX:bJ ["self"] ["self"] (bC lB):=bV (by kernel_rfl)
abbrev oV:Stmt:=inClass (top 94) 3
theorem nE:bJ ["self","count"] ["self"] (bC oV):=bV (by kernel_rfl)
def cf(a:Addr)(i:Nat):List (Str×V):=[("numbers",.ref a),("place",.int i)]
theorem P5(a:Addr)(i:Nat):(cf a i).lookup ("numbers":Str)=some (.ref a):=by
 unfold cf;rw[aFD,beq_self_eq_true]
theorem HJ(a:Addr)(i:Nat):(cf a i).lookup ("place":Str)=some (.int i):=by
 unfold cf;rw[aFD,show (("place":Str)=="numbers")=false from by decide +kernel,aFD,beq_self_eq_true]
theorem AN(a:Addr)(i:Nat){m:Str}(h1:(m==("numbers":Str))=false)(h2:(m==("place":Str))=false):(cf a i).lookup m=none:=by
 unfold cf;rw[aFD,h1,aFD,h2];rfl
theorem XG(a:Addr)(i j:Nat):bG "place" (.int j) (cf a i)=cf a j:=by
 unfold cf bG;rw[if_neg (by decide +kernel)];unfold bG;rw[if_pos rfl]
structure cU(K:W.Frag)(C:Addr)(H:Hp)(p a:Addr)(ns:List Int)(i:Nat):Prop where
 at_:∃ dx,H p=some (.ins C dx (cf a i))
 sq:cT K H a (ns.map V.int)
 ne:NeK K a p (ns.map V.int)
structure UD(K:W.Frag)(C:Addr):Prop where
 cl:Cls K C
 nN:cS K C "numbers"
 nP:cS K C "place"
structure aCW(K:W.Frag)(mg:Str→Option Value)(C:Addr):Prop extends UD K C where
 len:mg "len"=none
inductive nW(C:Addr)(vs:List V)(H:Hp)(Q:VK)(E:XK):Prop
 | mk (p dx a:Addr) (_:vs=[.ref p,.ref a]) (_:H p=some (.ins C dx [])) (_:Q .non (upd (upd H p (.ins C dx [("numbers",.ref a)])) p (.ins C dx (cf a 0)))):nW C vs H Q E
inductive qO(K:W.Frag)(C:Addr)(vs:List V)(H:Hp)(Q:VK)(E:XK):Prop
 | mk (p a:Addr) (ns:List Int) (i:Nat) (_:vs=[.ref p]) (_:cU K C H p a ns i) (_:Q (.bl (decide (i<ns.length))) H):qO K C vs H Q E
inductive b9(K:W.Frag)(C:Addr)(vs:List V)(H:Hp)(Q:VK)(E:XK):Prop
 | mk (p a:Addr) (ns:List Int) (i:Nat) (x:Int) (r:List Int) (_:vs=[.ref p]) (_:cU K C H p a ns i) (_:ns.drop i=x::r) (_:∀ H',But p H H'→cU K C H' p a ns (i+1)→ns.drop (i+1)=r→Q (.int x) H'):b9 K C vs H Q E
inductive cN(K:W.Frag)(C:Addr)(vs:List V)(H:Hp)(Q:VK)(E:XK):Prop
 | mk (p a:Addr) (ns:List Int) (i:Nat) (x r:List Int) (_:vs=[.ref p]) (_:cU K C H p a ns i) (_:PyFlat.row (ns.drop i)=some (x,r)) (_:∀ H' q i',But p H H'→cU K C H' p a ns i'→ns.drop i'=r→H q=none→H' q=some (.lst (x.map V.int))→Q (.ref q) H'):cN K C vs H Q E
theorem aBL{xs:List V}{o k:Nat}{x y:Int}(hx:x=(o:Nat))(hy:y=(o+k:Nat))(h:o+k≤xs.length):mN xs (some x) (some y)=(xs.drop o).take k:=by
 subst hx hy;unfold mN;rw[HT.pJ,HT.pJ,Nat.min_eq_left h,Nat.min_eq_left (show o≤xs.length by lia),show o+k-o=k from by lia]
theorem MV{p q:Addr}{H H':Hp}{o:HO}(b:But p H H')(hp:H' p=some o)(hq:H' q=none):H q=none:=by
 cases e:H q with
 | none=>rfl
 | some u=>
  by_cases c:q=p
  ·subst c;rw[hp] at hq;cases hq
  ·rw[b q u e c] at hq;cases hq
section
variable{P:Program}{w:World}{K:W.Frag}{mg:Str→Option Value}{base:Heap}
theorem FM{C:Addr}(D:pV K C "__init__" "Calls.__init__" oX ["self","numbers"])(T:UD K C):cV P w K mg base C "__init__" ["self","numbers"] 1 (nW C):=by
 refine D.own T.cl vZ (fun vs H Q E h=>?_) (fun f cdv A outer s H vs Q E hr h=>?_)
 ·obtain⟨p,dx,a,rfl,_⟩:=h;rfl
 ·obtain⟨p,dx,a,rfl,hp,q⟩:=h;refine⟨_,(aZ (cP (pv 0) (pv 1) rfl)
   (bA (cP (pv 0) a8 rfl))),?_⟩
  walk_at"0";refine⟨C,dx,[],hp,T.cl,T.nN,by show 0<1000;decide,C,dx,_,a7,T.cl,T.nP,by show 1<1000;decide,?_⟩;have e:bG "place" (V.int 0) (bG "numbers" (V.ref a) [])=cf a 0:=by
   show bG "place" (V.int 0) [(("numbers":Str),V.ref a)]=_;unfold bG;rw[if_neg (by decide +kernel)];rfl
  rw[e];exact q
theorem L3{C:Addr}(D:pV K C "are_left" "Calls.are_left" oW ["self"])(T:UD K C)(T0:Txt K mg):cV P w K mg base C "are_left" ["self"] 1 (qO K C):=by
 refine D.own T.cl vY (fun vs H Q E h=>?_) (fun f cdv A outer s H vs Q E hr h=>?_)
 ·obtain⟨p,a,ns,i,rfl,_⟩:=h;rfl
 ·obtain⟨p,a,ns,i,rfl,⟨⟨dx,hp⟩,sq,ne⟩,q⟩:=h;have T:={T with len:=T0.len:aCW K mg C};refine⟨_,(bA (bI (hG (wM (bB (pv 0) rfl) (bY bQ (by rfl) T.len PySem.boot_len (aY (bB (pv 0) rfl) a6)))))),?_⟩;walk_at"0";refine⟨C,dx,_,hp,T.cl,T.nP,_,HJ a i,C,dx,_,hp,T.cl,T.nN,_,P5 a i,a,rfl,_,.inl sq,_,rfl,?_⟩;rw[aFd,show decide ((i:Int)<(ns.length:Int))=decide (i<ns.length) from by congr 1;apply propext;lia];exact q
theorem DI{C:Addr}(D:pV K C "take_number" "Calls.take_number" lB ["self"])(T:UD K C):cV P w K mg base C "take_number" ["self"] 1 (b9 K C):=by
 refine D.own T.cl qX (fun vs H Q E h=>?_) (fun f cdv A outer s H vs Q E hr h=>?_)
 ·obtain⟨p,a,ns,i,x,r,rfl,_⟩:=h;rfl
 ·obtain⟨p,a,ns,i,x,r,rfl,⟨⟨dx,hp⟩,sq,ne⟩,hd,q⟩:=h;have hi:ns[i]?=some x:=by
   have h:(ns.drop i)[0]?=some x:=by rw[hd];rfl
   rw[List.getElem?_drop] at h;exact h
  have hr2:ns.drop (i+1)=r:=by
   rw[←List.drop_drop,hd];rfl
  have e:bG "place" (V.int ((i:Int)+1)) (cf a i)=cf a (i+1):=XG a i (i+1);have bt:But p H (upd H p (.ins C dx (cf a (i+1)))):=dW;refine⟨_,(aZ (iV (pv 0) a8 xC)
   (bA (bI (cC bZ (bB (pv 0) rfl) (bH eU (bB (pv 0) rfl) a8) (fun _ _=>rfl))))),?_⟩
  walk_at"6";refine⟨C,dx,_,hp,T.cl,T.nP,_,HJ a i,_,rfl,dx,_,hp,by show 2<1000;decide,?_⟩;walk_at"6";rw[e];refine⟨C,dx,_,a7,T.cl,T.nN,_,P5 a _,C,dx,_,a7,T.cl,T.nP,_,HJ a _,_,rfl,a,rfl,_,JV bt ne sq,_,at_of (j:=i) (v:=V.int x) (by lia) (by rw[aFH,hi];rfl),?_⟩;exact q _ bt ⟨⟨dx,a7⟩,JV bt ne sq,ne⟩ hr2
theorem LS{C:Addr}(D:pV K C "take_row" "Calls.take_row" oV ["self"])(T:UD K C)(bE:cV P w K mg base C "take_number" ["self"] 1 (b9 K C)):cV P w K mg base C "take_row" ["self"] 2 (cN K C):=by
 refine D.own T.cl nE (fun vs H Q E h=>?_) (fun f cdv A outer s H vs Q E hr h=>?_)
 ·obtain⟨p,a,ns,i,x,r,rfl,_⟩:=h;rfl
 ·obtain⟨p,a,ns,i,x,r,rfl,hC,hrow,q⟩:=h;(refine aN (BM.GN hrow) fun n r' e1 e2 bO cA=>?_;subst bO;subst cA);obtain⟨dx,hp⟩:=hC.at_;refine⟨_,(aZ (bK (i:=1) nE.nd rfl (Or.inl rfl) (cJ bE hr (by decide) (pv 0)))
   (aZ (iV (pv 0) (pv 1) xC)
   (bA (bI (jE m9 (bB (pv 0) rfl) (gU (bH eU (bB (pv 0) rfl) (pv 1))) (gU (bB (pv 0) rfl))))))),?_⟩
  walk_at"0";refine⟨dx,_,hp,AN a i (by decide +kernel) (by decide +kernel),p,a,ns,i,n,r',rfl,hC,e1,fun H1 b1 C1 d1=>?_⟩;obtain⟨Z3,hp1⟩:=C1.at_;have e:bG "place" (V.int (((i+1:Nat):Int)+(n:Int))) (cf a (i+1))=cf a (i+1+n):=XG a (i+1) (i+1+n);have b2:But p H1 (upd H1 p (.ins C Z3 (cf a (i+1+n)))):=dW;have sq2:=JV b2 C1.ne C1.sq;refine⟨C,Z3,_,hp1,T.cl,T.nP,_,HJ a _,_,rfl,_,rfl,Z3,_,hp1,by show 2<1000;decide,?_⟩;rw[e];refine⟨C,Z3,_,a7,T.cl,T.nN,_,P5 a _,C,Z3,_,a7,T.cl,T.nP,_,HJ a _,?_⟩;refine⟨_,rfl,_,rfl,C,Z3,_,a7,T.cl,T.nP,_,HJ a _,_,rfl,a,rfl,_,sq2,fun q' hq'=>?_⟩;have hlen:i+1+n≤ns.length:=by
   have h1:=congrArg List.length e1;have h2:=congrArg List.length d1;rw[aFp] at h1 h2;rw[List.length_cons] at h1;lia
  rw[aBL (o:=i+1) (k:=n) (by lia) (by lia) (by rw[aFd];exact hlen),←List.map_drop,←List.map_take,d1];have b3:=b1.trans b2;have fq:H q'=none:=MV b3 a7 hq';have sm:Same (upd H1 p (.ins C Z3 (cf a (i+1+n)))) (upd (upd H1 p (.ins C Z3 (cf a (i+1+n)))) q' (.lst ((r'.take n).map V.int))):=a9 hq';refine q _ q' (i+1+n) (b3.trans (.of sm)) ⟨⟨Z3,sm _ _ a7⟩,sm.seq sq2,hC.ne⟩ ?_ fq a7;rw[←List.drop_drop,d1]
end
local macro_rules | `(tactic| walk_at"0")=>sm true ([]) (dL1++P2++RX++mV++mL++lK++eS)
structure UC(K:W.Frag)(mg:Str→Option Value):Prop extends J1 K mg where
 NOT_AS_TOLD:GI mg "NOT_AS_TOLD" (-21)
abbrev z0:Stmt:=top 95
theorem lH:bJ ["house","calls","s","a","b"] ["house","calls"] (bC z0):=bV (by kernel_rfl)
abbrev t9:Stmt:=top 96
theorem lZ:bJ ["house","calls","x"] ["house","calls"] (bC t9):=bV (by kernel_rfl)
abbrev wA:Stmt:=top 97
theorem nY:bJ ["house","calls","short"] ["house","calls"] (bC wA):=bV (by kernel_rfl)
abbrev pZ:Stmt:=top 98
theorem oM:bJ ["house","calls","row"] ["house","calls"] (bC pZ):=bV (by kernel_rfl)
abbrev CU:Stmt:=top 99
theorem nB:bJ ["house","calls","s","a","b"] ["house","calls"] (bC CU):=bV (by kernel_rfl)
abbrev wB:Stmt:=top 100
theorem kF:bJ ["house","calls","k","n","shorts"] ["house","calls"] (bC wB):=bV (by kernel_rfl)
abbrev rB:Stmt:=top 101
theorem iJ:bJ ["house","calls","k","n","woven"] ["house","calls"] (bC rB):=bV (by kernel_rfl)
abbrev rC:Stmt:=top 102
theorem eI:bJ ["house","calls","m","k","n","a","woven","c"] ["house","calls"] (bC rC):=bV (by kernel_rfl)
def ans(c:List (List Int)):List Int:=(BrainNeutral.step BrainNeutral.start c).2
inductive j8(K:W.Frag)(C:Addr)(n:Int)(vs:List V)(H:Hp)(Q:VK)(E:XK):Prop
 | mk (ph p a:Addr) (ns:List Int) (i:Nat) (c:List (List Int)) (t:List Int) (_:vs=[.ref ph,.ref p]) (_:cU K C H p a ns i) (_:PyFlat.call PyWrbrnr.shape (n::ns.drop i)=some (c,t)) (_:PyInside.call PyWrbrnr.bound c=true) (_:∀ H' q i',But p H H'→cU K C H' p a ns i'→ns.drop i'=t→H q=none→H' q=some (.lst ((ans c).map V.int))→Q (.ref q) H'):j8 K C n vs H Q E
theorem cI{hi z:Int}(h:PyInside.within 0 hi z=true):∃ n:Nat,z=(n:Int)∧(n:Int)≤hi:=by
 unfold PyInside.within at h;rw[aFg,decide_eq_true_iff,decide_eq_true_iff] at h;obtain⟨n,rfl⟩:=Int.eq_ofNat_of_zero_le h.1;exact⟨n,rfl,h.2⟩
theorem tE{hi:Int}{l:List Int}(h:l.all (PyInside.within 0 hi)=true):∃ m:List Nat,l=m.map (fun (n:Nat)=>(n:Int))∧∀ x∈m,(x:Int)≤hi:=by
 induction l with
 | nil=>exact⟨[],rfl,fun x hx=>by cases hx⟩
 | cons z r ih=>
  rw[List.all_cons,aFg] at h;(refine aA (cI h.1) fun n bO hn=>?_;subst bO);(refine aA (ih h.2) fun m cA hm=>?_;subst cA);refine⟨n::m,rfl,fun x hx=>?_⟩;rcases aEZ.mp hx with rfl | hx
  ·exact hn
  ·exact hm x hx
theorem dJ(m:List Nat):(m.map (fun (n:Nat)=>(n:Int))).map V.int=nums m:=by
 unfold nums;rw[List.map_map];rfl
theorem eL(m:List Nat):Lines.nats (m.map (fun (n:Nat)=>(n:Int)))=m:=by
 unfold Lines.nats;rw[List.map_map]
 conv=>rhs;rw[←List.map_id m]
 rfl
theorem iZ{c:List (List Int)}{x:Brain.Call}{st:Brain.State}{l:List Nat}(h:BrainNeutral.callOf c=some x)(e:(Brain.step Brain.start x).2=Brain.tells l):(ans c).map V.int=V.int 0::nums l:=by
 unfold ans BrainNeutral.step;rw[h];dsimp only;rw[show BrainNeutral.start=Brain.start from rfl,e];unfold BrainNeutral.behind Brain.tells;show V.int 0::((l.map fun (n:Nat)=>(n:Int))++[]).map V.int=_;rw[List.append_nil,dJ]
theorem sC{c:List (List Int)}{x:Brain.Call}{z:Int}(h:BrainNeutral.callOf c=some x)(e:(Brain.step Brain.start x).2=Brain.says z):(ans c).map V.int=[V.int z]:=by
 unfold ans BrainNeutral.step;rw[h];dsimp only;rw[show BrainNeutral.start=Brain.start from rfl,e];unfold BrainNeutral.behind Brain.says
 split <;> rfl
theorem cU.same{K:W.Frag}{C p a:Addr}{H H':Hp}{ns:List Int}{i:Nat}(c:cU K C H p a ns i)(sm:Same H H'):cU K C H' p a ns i:=by
 obtain⟨⟨dx,h⟩,sq,ne⟩:=c;exact⟨⟨dx,sm _ _ h⟩,sm.seq sq,ne⟩
theorem cU.free{K:W.Frag}{C p a r:Addr}{H H':Hp}{ns:List Int}{i:Nat}(c:cU K C H' p a ns i)(b:But p H H')(hr:H' r=none):H r=none:=by
 obtain⟨⟨dx,h⟩,_,_⟩:=c;exact MV b h hr
theorem lQ{K:W.Frag}{C p a:Addr}{H:Hp}{ns:List Int}{i:Nat}{x:Int}{r:List Int}{Q:VK}(c:cU K C H p a ns i)(hd:ns.drop i=x::r)(k:∀ H',But p H H'→cU K C H' p a ns (i+1)→ns.drop (i+1)=r→Q (.int x) H'):
  ∃ d fs,H p=some (.ins C d fs)∧fs.lookup ("take_number":Str)=none∧b9 K C [V.ref p] H Q E0:=by
 obtain⟨dx,h⟩:=c.at_;exact⟨dx,_,h,AN a i (by decide +kernel) (by decide +kernel),p,a,ns,i,x,r,rfl,c,hd,k⟩
theorem qL{K:W.Frag}{C p a:Addr}{H:Hp}{ns:List Int}{i:Nat}{x r:List Int}{Q:VK}(c:cU K C H p a ns i)(hd:PyFlat.row (ns.drop i)=some (x,r))
  (k:∀ H' q i',But p H H'→cU K C H' p a ns i'→ns.drop i'=r→H q=none→H' q=some (.lst (x.map V.int))→Q (.ref q) H'):
  ∃ d fs,H p=some (.ins C d fs)∧fs.lookup ("take_row":Str)=none∧cN K C [V.ref p] H Q E0:=by
 obtain⟨dx,h⟩:=c.at_;exact⟨dx,_,h,AN a i (by decide +kernel) (by decide +kernel),p,a,ns,i,x,r,rfl,c,hd,k⟩
theorem fJ{K:W.Frag}{C p a:Addr}{H H1:Hp}{ns t:List Int}{i:Nat}{c:List (List Int)}{Q:VK}{l:List V}(q:∀ H' r i',But p H H'→cU K C H' p a ns i'→ns.drop i'=t→H r=none→H' r=some (.lst ((ans c).map V.int))→Q (.ref r) H')
  (b:But p H H1) (C1:cU K C H1 p a ns i) (d:ns.drop i=t) (e:(ans c).map V.int=l):∀ r,H1 r=none→Q (.ref r) (upd H1 r (.lst l)):=fun r hr=>by
 have sm:Same H1 (upd H1 r (.lst l)):=a9 hr;exact q _ r i (b.trans (.of sm)) (C1.same sm) d (C1.free b hr) (by rw[a7,e])
section
variable{P:Program}{w:World}{K:W.Frag}{mg:Str→Option Value}{base:Heap}{C:Addr}
theorem IW(D:Def K mg "call_step" z0 ["house","calls"])(bE:cV P w K mg base C "take_number" ["self"] 1 (b9 K C))(gQ:Own P w K mg base "step" ["s","a","b"] 3 mY):
  Own P w K mg base "call_step" ["house","calls"] 4 (j8 K C 0):=by
 refine D.own lH (fun vs H Q E h=>?_) (fun f cdv A outer s H vs Q E hr h=>?_)
 ·obtain⟨ph,p,a,ns,i,c,t,rfl,_⟩:=h;rfl
 ·obtain⟨ph,p,a,ns,i,c,t,rfl,hC,hc,hb,q⟩:=h;(refine aP (BM.JT (by decide) hc) fun x y z e1 bO=>?_;subst bO);have hb':(PyInside.within 0 4294967295 x&&(PyInside.within 0 65535 y&&(PyInside.within 0 65535 z&&true))&&true)=true:=hb;rw[aFm,aFm,aFg,aFg] at hb';(refine aA (cI hb'.1) fun x cA hx=>?_;subst cA);(refine aA (cI hb'.2.1) fun y dF hy=>?_;subst dF);(refine aA (cI hb'.2.2) fun z eX hz=>?_;subst eX);refine⟨_,(aZ (bK (i:=2) lH.nd rfl (Or.inl rfl) (cJ bE hr (by decide) (pv 1)))
   (aZ (bK (i:=3) lH.nd rfl (Or.inl rfl) (cJ bE hr (by decide) (pv 1)))
   (aZ (bK (i:=4) lH.nd rfl (Or.inl rfl) (cJ bE hr (by decide) (pv 1)))
   (bA (bI (cG (aY a8 (aY (bN gQ hr (by decide) rfl (aY (pv 2) (aY (pv 3) (aY (pv 4) a6)))) a6)))))))),?_⟩
  walk_at"0";refine lQ hC e1 fun H1 b1 C1 d1=>?_;walk_at"0";refine lQ C1 d1 fun H2 b2 C2 d2=>?_;walk_at"0";refine lQ C2 d2 fun H3 b3 C3 d3=>?_;walk_at"0";refine⟨x,y,z,rfl,by lia,by lia,by lia,fun H4 sm=>⟨by decide,?_⟩⟩;exact fJ q (((b1.trans b2).trans b3).trans (.of sm)) (C3.same sm) d3 (iZ (st:=Brain.start) (l:=[Br.step x y z]) rfl rfl)
theorem DP(D:Def K mg "call_narrow" t9 ["house","calls"])(bR:cV P w K mg base C "take_row" ["self"] 2 (cN K C))(eP:Own P w K mg base "narrow" ["x"] 2 iS):
  Own P w K mg base "call_narrow" ["house","calls"] 4 (j8 K C 1):=by
 refine D.own lZ (fun vs H Q E h=>?_) (fun f cdv A outer s H vs Q E hr h=>?_)
 ·obtain⟨ph,p,a,ns,i,c,t,rfl,_⟩:=h;rfl
 ·obtain⟨ph,p,a,ns,i,c,t,rfl,hC,hc,hb,q⟩:=h;(refine aA (BM.lL (by decide) hc) fun x e1 bO=>?_;subst bO);have hb':(true&&(decide (0≤x.length)&&decide (x.length≤5000)&&x.all (PyInside.within 0 4294967295)&&true))=true:=hb;rw[Bool.true_and,aFm,aFg,aFg,decide_eq_true_iff,decide_eq_true_iff] at hb';obtain⟨⟨_,hlen⟩,hall⟩:=hb';(refine aA (tE hall) fun m cA hm=>?_;subst cA);rw[aFd] at hlen;refine⟨_,(bA (bI (bH jU (cG (aY a8 a6)) (AC (own:=[("x",2)]) rfl lZ.nd (Q2 (cJ bR hr (by decide) (pv 1))) (oB (by kernel_rfl)) (fun _ _ _ _ _=>dM (i:=2) lZ.nd rfl (Or.inl rfl)) (fun _ _ _ _ _=>kH) (fun _ _ _ _ _=>(bN eP hr (by decide) rfl (aY (pv 2) a6))))))),?_⟩;walk_at"0";refine⟨by decide,fun p1 hp1=>?_⟩;have E4:Same H (upd H p1 (.lst [V.int 0])):=a9 hp1;have np1:p1≠p:=fun z=>by
   obtain⟨dx,h⟩:=hC.at_;rw[z,h] at hp1;cases hp1
  obtain⟨dx,hat⟩:=(hC.same E4).at_;refine⟨_,rfl,p,dx,_,rfl,hat,AN a i (by decide +kernel) (by decide +kernel),p,a,ns,i,_,t,rfl,hC.same E4,e1,fun H1 pr i1 b1 C1 d1 fr hr1=>?_⟩;rw[dJ] at hr1;have h1:H1 p1=some (.lst [V.int 0]):=b1 _ _ a7 np1;refine⟨pr,rfl,⟨_,cT.of hr1⟩,fun D hD=>RF (K:=K) (a:=pr) (xs:=nums m) (fun j H'=>Same H1 H'∧H' D=some (.lst (nums ((m.take j).map Br.narrowed)))) ⟨a9 hD,a7⟩ (fun j H' _ h=>cT.of (h.1 _ _ hr1)) ?_ ?_⟩
  ·rintro j y H' hy ⟨sm,h2⟩;have hj:j<m.length:=by
    have:=(aFQ.mp hy).1;rw[bM] at this;exact this
   rw[mG hj] at hy;obtain rfl:=aFa hy;walk_at"0";refine⟨_,rfl,by have:=BM.dB (B:=4294967296) (by decide) (fun x hx=>by have:=hm x hx;lia) j (l:=m);exact this,_,h2,?_,fY sm hD _,?_⟩
   ·rw[bM,aFd,aFq,sizeLine_eq];lia
   ·rw[a7,wT,List.take_succ,aFv hj,aFC];rw[aFe,aFv hj];rfl
  ·rintro H' ⟨sm,h2⟩;rw[bM,List.take_length] at h2;refine⟨D,rfl,_,sm _ _ h1,_,h2,?_,?_⟩
   ·rw[bM,aFd,sizeLine_eq];show 1+_≤_;lia
   ·refine fJ q (((But.of E4).trans b1).trans (.of sm)) (C1.same sm) d1 (iZ (st:=Brain.start) (x:= .narrow m) (l:=m.map Br.narrowed) ?_ rfl);show some (Brain.Call.narrow (Lines.nats _))=_;rw[eL]
theorem FD(D:Def K mg "call_widen" wA ["house","calls"])(bR:cV P w K mg base C "take_row" ["self"] 2 (cN K C))(nM:Own P w K mg base "widen" ["short"] 1 lS):
  Own P w K mg base "call_widen" ["house","calls"] 4 (j8 K C 2):=by
 refine D.own nY (fun vs H Q E h=>?_) (fun f cdv A outer s H vs Q E hr h=>?_)
 ·obtain⟨ph,p,a,ns,i,c,t,rfl,_⟩:=h;rfl
 ·obtain⟨ph,p,a,ns,i,c,t,rfl,hC,hc,hb,q⟩:=h;(refine aA (BM.lL (by decide) hc) fun x e1 bO=>?_;subst bO);have hb':(true&&(decide (0≤x.length)&&decide (x.length≤5000)&&x.all (PyInside.within 0 65535)&&true))=true:=hb;rw[Bool.true_and,aFm,aFg,aFg,decide_eq_true_iff,decide_eq_true_iff] at hb';obtain⟨⟨_,hlen⟩,hall⟩:=hb';(refine aA (tE hall) fun m cA hm=>?_;subst cA);rw[aFd] at hlen;refine⟨_,(bA (bI (bH jU (cG (aY a8 a6)) (AC (own:=[("short",2)]) rfl nY.nd (Q2 (cJ bR hr (by decide) (pv 1))) (oB (by kernel_rfl)) (fun _ _ _ _ _=>dM (i:=2) nY.nd rfl (Or.inl rfl)) (fun _ _ _ _ _=>kH) (fun _ _ _ _ _=>(bN nM hr (by decide) rfl (aY (pv 2) a6))))))),?_⟩;walk_at"0";refine⟨by decide,fun p1 hp1=>?_⟩;have E4:Same H (upd H p1 (.lst [V.int 0])):=a9 hp1;have np1:p1≠p:=fun z=>by
   obtain⟨dx,h⟩:=hC.at_;rw[z,h] at hp1;cases hp1
  obtain⟨dx,hat⟩:=(hC.same E4).at_;refine⟨_,rfl,p,dx,_,rfl,hat,AN a i (by decide +kernel) (by decide +kernel),p,a,ns,i,_,t,rfl,hC.same E4,e1,fun H1 pr i1 b1 C1 d1 fr hr1=>?_⟩;rw[dJ] at hr1;have h1:H1 p1=some (.lst [V.int 0]):=b1 _ _ a7 np1;refine⟨pr,rfl,⟨_,cT.of hr1⟩,fun D hD=>RF (K:=K) (a:=pr) (xs:=nums m) (fun j H'=>Same H1 H'∧H' D=some (.lst (nums ((m.take j).map Br.wide)))) ⟨a9 hD,a7⟩ (fun j H' _ h=>cT.of (h.1 _ _ hr1)) ?_ ?_⟩
  ·rintro j y H' hy ⟨sm,h2⟩;have hj:j<m.length:=by
    have:=(aFQ.mp hy).1;rw[bM] at this;exact this
   rw[mG hj] at hy;obtain rfl:=aFa hy;walk_at"0";refine⟨_,rfl,by have:=BM.dB (B:=65536) (by decide) (fun x hx=>by have:=hm x hx;lia) j (l:=m);exact this,_,h2,?_,fY sm hD _,?_⟩
   ·rw[bM,aFd,aFq,sizeLine_eq];lia
   ·rw[a7,wT,List.take_succ,aFv hj,aFC];rw[aFe,aFv hj];rfl
  ·rintro H' ⟨sm,h2⟩;rw[bM,List.take_length] at h2;refine⟨D,rfl,_,sm _ _ h1,_,h2,?_,?_⟩
   ·rw[bM,aFd,sizeLine_eq];show 1+_≤_;lia
   ·refine fJ q (((But.of E4).trans b1).trans (.of sm)) (C1.same sm) d1 (iZ (st:=Brain.start) (x:= .widen m) (l:=m.map Br.wide) ?_ rfl);show some (Brain.Call.widen (Lines.nats _))=_;rw[eL]
theorem yT(D:Def K mg "call_greatest" pZ ["house","calls"])(T:UC K mg)(bR:cV P w K mg base C "take_row" ["self"] 2 (cN K C))(eN:Own P w K mg base "greatest_place" ["singles","first","width"] 2 (gC K)):
  Own P w K mg base "call_greatest" ["house","calls"] 4 (j8 K C 3):=by
 refine D.own oM (fun vs H Q E h=>?_) (fun f cdv A outer s H vs Q E hr h=>?_)
 ·obtain⟨ph,p,a,ns,i,c,t,rfl,_⟩:=h;rfl
 ·obtain⟨ph,p,a,ns,i,c,t,rfl,hC,hc,hb,q⟩:=h;(refine aA (BM.lL (by decide) hc) fun x e1 bO=>?_;subst bO);have hb':(true&&(decide (0≤x.length)&&decide (x.length≤5000)&&x.all (PyInside.within 0 4294967295)&&true))=true:=hb;rw[Bool.true_and,aFm,aFg,aFg,decide_eq_true_iff,decide_eq_true_iff] at hb';obtain⟨⟨_,hlen⟩,hall⟩:=hb';(refine aA (tE hall) fun m cA hm=>?_;subst cA);rw[aFd] at hlen;refine⟨_,(aZ (bK (i:=2) oM.nd rfl (Or.inl rfl) (cJ bR hr (by decide) (pv 1)))
   (aZ (cE (bU (cY (bY bQ (by rfl) T.len PySem.boot_len (aY (pv 2) a6)) a8)) (bA (bI (cG (aY (cH rfl T.NOT_AS_TOLD) a6)))) bT)
   (bA (bI (cG (aY a8 (aY (bN eN hr (by decide) rfl (aY (pv 2) (aY a8 (aY (bY bQ (by rfl) T.len PySem.boot_len (aY (pv 2) a6)) a6)))) a6))))))),?_⟩
  walk_at"0";refine qL hC e1 fun H1 pr i1 b1 C1 d1 fr hr1=>?_;rw[dJ] at hr1;walk_at"0";refine⟨_,.inl (cT.of hr1),?_⟩;rw[bM];refine cZ (fun h=>⟨by decide,?_⟩) (fun h=>?_)
  ·have h0:m=[]:=by
    have:=aFf h;exact List.length_eq_zero_iff.mp (by lia)
   subst h0;exact fJ q b1 C1 d1 (sC (x:= .greatest []) rfl rfl)
  ·have h0:m≠[]:=fun z=>h (by rw[z];rfl);walk_at"0";refine⟨_,.inl (cT.of hr1),pr,m,0,m.length,by rw[bM];rfl,cT.of hr1,by lia,List.length_pos_iff.mpr h0,by lia,fun y hy=>by have:=hm y hy;lia,by decide,?_⟩;rw[List.drop_zero,List.take_length];refine fJ q b1 C1 d1 (iZ (st:=Brain.start) (x:= .greatest m) (l:=[Br.greatest m]) ?_ ?_)
   ·show some (Brain.Call.greatest (Lines.nats _))=_;rw[eL]
   ·show (if m=[] then Brain.says (-21) else Brain.tells [Br.greatest m])=_;rw[if_neg h0]
theorem jS{x:List Int}{hi:Int}{n:Nat}(h:(decide (0≤x.length)&&decide (x.length≤n)&&x.all (PyInside.within 0 hi))=true):∃ m:List Nat,x=m.map (fun (n:Nat)=>(n:Int))∧m.length≤n∧∀ y∈m,(y:Int)≤hi:=by
 rw[aFg,aFg,decide_eq_true_iff,decide_eq_true_iff] at h;obtain⟨⟨_,hlen⟩,hall⟩:=h;(refine aA (tE hall) fun m bO hm=>?_;subst bO);rw[aFd] at hlen;exact⟨m,rfl,hlen,hm⟩
theorem L0(D:Def K mg "call_sum" CU ["house","calls"])(T:UC K mg)(bE:cV P w K mg base C "take_number" ["self"] 1 (b9 K C))(bR:cV P w K mg base C "take_row" ["self"] 2 (cN K C))
  (gX:Own P w K mg base "row_sum" ["s","a","b"] 4 (lT K)):Own P w K mg base "call_sum" ["house","calls"] 5 (j8 K C 4):=by
 refine D.own nB (fun vs H Q E h=>?_) (fun f cdv A outer s H vs Q E hr h=>?_)
 ·obtain⟨ph,p,a,ns,i,c,t,rfl,_⟩:=h;rfl
 ·obtain⟨ph,p,a,ns,i,c,t,rfl,hC,hc,hb,q⟩:=h;(refine aE (BM.xO (by decide) hc) fun x r1 u bO=>?_;refine aN bO fun r2 v e0 e1 e2 cA=>?_;subst cA);have hb':((PyInside.within 0 4294967295 x&&true)&&((decide (0≤u.length)&&decide (u.length≤5000)&&u.all (PyInside.within 0 65535))&&((decide (0≤v.length)&&decide (v.length≤5000)&&v.all (PyInside.within 0 65535))&&true)))=true:=hb;rw[aFm,aFm,aFg,aFg] at hb';(refine aA (cI hb'.1) fun x dF hx=>?_;subst dF);(refine aC (jS hb'.2.1) fun u eX hu1 hu=>?_;subst eX);(refine aC (jS hb'.2.2) fun v hE hv1 hv=>?_;subst hE);refine⟨_,(aZ (bK (i:=2) nB.nd rfl (Or.inl rfl) (cJ bE hr (by decide) (pv 1)))
   (aZ (bK (i:=3) nB.nd rfl (Or.inl rfl) (cJ bR hr (by decide) (pv 1)))
   (aZ (bK (i:=4) nB.nd rfl (Or.inl rfl) (cJ bR hr (by decide) (pv 1)))
   (aZ (cE (bU (gO (bY bQ (by rfl) T.len PySem.boot_len (aY (pv 3) a6)) (bY bQ (by rfl) T.len PySem.boot_len (aY (pv 4) a6)))) (bA (bI (cG (aY (cH rfl T.NOT_AS_TOLD) a6)))) bT)
   (bA (bI (cG (aY a8 (aY (bN gX hr (by decide) rfl (aY (pv 2) (aY (pv 3) (aY (pv 4) a6)))) a6))))))))),?_⟩
  walk_at"0";refine lQ hC e0 fun H1 b1 C1 d1=>?_;rw[←d1] at e1;walk_at"0";refine qL C1 e1 fun H2 pu i2 b2 C2 d2 f2 h2=>?_;rw[←d2] at e2;walk_at"0";refine qL C2 e2 fun H3 pv i3 b3 C3 d3 f3 h3=>?_;rw[dJ] at h2 h3;have npu:pu≠p:=fun z=>by
   obtain⟨dx,h⟩:=C1.at_;rw[z,h] at f2;cases f2
  have h2':=b3 _ _ h2 npu;have bb:=(b1.trans b2).trans b3;walk_at"0";refine⟨_,.inl (cT.of h2'),_,.inl (cT.of h3),?_⟩;rw[bM,bM];have hcall:BrainNeutral.callOf [[4,(x:Int)],u.map (fun (n:Nat)=>(n:Int)),v.map (fun (n:Nat)=>(n:Int))]=some (.sum x u v):=by
   show some (Brain.Call.sum _ (Lines.nats _) (Lines.nats _))=_;rw[eL,eL];rfl
  refine cZ (fun h=>⟨by decide,?_⟩) (fun h=>?_)
  ·have hne:u.length≠v.length:=by
    have h':=of_decide_eq_false h;lia
   refine fJ q bb C3 d3 (sC hcall ?_);show (if u.length≠v.length then Brain.says (-21) else _)=_;rw[if_pos hne]
  ·have heq:u.length=v.length:=by
    have h':=aFf (Bool.not_eq_false _ ▸ h:decide _=true);lia
   walk_at"0";refine⟨x,pu,pv,u,v,rfl,cT.of h2',cT.of h3,heq,by lia,by lia,fun y hy=>by have:=hu y hy;lia,fun y hy=>by have:=hv y hy;lia,fun H4 sm=>⟨by decide,?_⟩⟩;refine fJ q (bb.trans (.of sm)) (C3.same sm) d3 (iZ (st:=Brain.start) (l:=[Br.sum x (Br.twos u.length (fun i=>u.getD i 0) fun i=>v.getD i 0)]) hcall ?_);show (if u.length≠v.length then Brain.says (-21) else Brain.tells _)=_;rw[if_neg (fun z=>z heq)]
theorem FE(D:Def K mg "call_weave" wB ["house","calls"])(T:UC K mg)(bE:cV P w K mg base C "take_number" ["self"] 1 (b9 K C))(bR:cV P w K mg base C "take_row" ["self"] 2 (cN K C))
  (c7:Own P w K mg base "is_size" ["n"] 1 gJ) (J2:Own P w K mg base "weave" ["k","n","shorts"] 3 (B4 K)):Own P w K mg base "call_weave" ["house","calls"] 5 (j8 K C 5):=by
 refine D.own kF (fun vs H Q E h=>?_) (fun f cdv A outer s H vs Q E hr h=>?_)
 ·obtain⟨ph,p,a,ns,i,c,t,rfl,_⟩:=h;rfl
 ·obtain⟨ph,p,a,ns,i,c,t,rfl,hC,hc,hb,q⟩:=h;(refine aE (BM.kI (by decide) hc) fun k n r1 bO=>?_;refine aC bO fun u e0 e1 cA=>?_;subst cA);have hb':((PyInside.within 0 4294967295 k&&(PyInside.within 0 4294967295 n&&true))&&((decide (0≤u.length)&&decide (u.length≤5000)&&u.all (PyInside.within 0 65535))&&true))=true:=hb;rw[aFm,aFm,aFg,aFg] at hb';(refine aA (cI hb'.1.1) fun k dF hk=>?_;subst dF);(refine aA (cI hb'.1.2) fun n eX hn=>?_;subst eX);(refine aC (jS hb'.2) fun u hE hu1 hu=>?_;subst hE);refine⟨_,(aZ (bK (i:=2) kF.nd rfl (Or.inl rfl) (cJ bE hr (by decide) (pv 1)))
   (aZ (bK (i:=3) kF.nd rfl (Or.inl rfl) (cJ bE hr (by decide) (pv 1)))
   (aZ (bK (i:=4) kF.nd rfl (Or.inl rfl) (cJ bR hr (by decide) (pv 1)))
   (aZ (cE (PW.pt (jM (jT (eO (bN c7 hr (by decide) rfl (aY (pv 2) a6)))) (jM (jT (eO (bN c7 hr (by decide) rfl (aY (pv 3) a6)))) (k0 (bU (gO (bY bQ (by rfl) T.len PySem.boot_len (aY (pv 4) a6)) (bH eC (pv 2) (pv 3)))))))) (bA (bI (cG (aY (cH rfl T.NOT_AS_TOLD) a6)))) bT)
   (bA (bI (bH jU (cG (aY a8 a6)) (bN J2 hr (by decide) rfl (aY (pv 2) (aY (pv 3) (aY (pv 4) a6))))))))))),?_⟩
  walk_at"0";refine lQ hC e0 fun H1 b1 C1 d1=>?_;walk_at"0";refine lQ C1 d1 fun H2 b2 C2 d2=>?_;rw[←d2] at e1;walk_at"0";refine qL C2 e1 fun H3 pu i3 b3 C3 d3 f3 h3=>?_;rw[dJ] at h3;have bb:=(b1.trans b2).trans b3;have hcall:BrainNeutral.callOf [[5,(k:Int),(n:Int)],u.map (fun (n:Nat)=>(n:Int))]=some (.weave k n u):=by
   show some (Brain.Call.weave _ _ (Lines.nats _))=_;rw[eL];rfl
  have refused:(Br.sizeOk k=false∨Br.sizeOk n=false∨u.length≠k*n)→∀ r,H3 r=none→Q (V.ref r) (upd H3 r (.lst [V.int (-21)])):=fun z=>by
   refine fJ q bb C3 d3 (sC hcall ?_);show (if Br.sizeOk k=false∨Br.sizeOk n=false∨u.length≠k*n then Brain.says (-21) else _)=_;rw[if_pos z]
  walk_at"0";refine⟨k,rfl,_,rfl,cZ (fun h=>⟨by decide,refused (.inl h)⟩) (fun h=>⟨n,rfl,_,rfl,cZ (fun h2=>⟨by decide,refused (.inr (.inl h2))⟩) (fun h2=>?_)⟩)⟩;have hk':=BM.eQ (m:=k) (by simpa using h);have hn':=BM.eQ (m:=n) (by simpa using h2);have hkn:k*n≤64*64:=Nat.mul_le_mul hk'.2 hn'.2;refine⟨_,.inl (cT.of h3),.inl ⟨by lia,by lia⟩,?_⟩;rw[bM];refine cZ (fun h4=>⟨by decide,refused (.inr (.inr ?_))⟩) (fun h4=>?_)
  ·have h5:=of_decide_eq_false h4;rw[←aFw] at h5;exact fun z=>h5 (Int.natCast_inj.mpr z)
  have hsz:u.length=k*n:=by
   have h5:=aFf (Bool.not_eq_false _ ▸ h4:decide _=true);rw[←aFw] at h5;exact Int.natCast_inj.mp h5
  walk_at"0";refine⟨by decide,fun p1 hp1=>?_⟩;have E4:Same H3 (upd H3 p1 (.lst [V.int 0])):=a9 hp1;refine⟨k,n,pu,u,rfl,cT.of (E4 _ _ h3),hk'.1,hk'.2,hn'.1,hn'.2,hsz,fun H4 q4 EY f4 h4=>?_⟩;refine⟨q4,rfl,_,EY _ _ a7,_,h4,?_,?_⟩
  ·rw[bM,show (Br.weave (fun i j=>u.toArray.getD (i*n+j) 0) k n).length=Br.woven k n from by unfold Br.weave;rw[aFd,aFy],sizeLine_eq];have:=BM.oG hk'.2 hn'.2;show 1+_≤_;lia
  ·refine fJ q (bb.trans (.of (E4.trans EY))) (C3.same (E4.trans EY)) d3 (iZ (st:=Brain.start) (l:=Br.weave (fun i j=>u.toArray.getD (i*n+j) 0) k n) hcall ?_);show (if Br.sizeOk k=false∨Br.sizeOk n=false∨u.length≠k*n then Brain.says (-21) else Brain.tells _)=_;rw[if_neg (by
    rintro(z | z | z)
    ·exact h z
    ·exact h2 z
    ·exact z hsz)]
theorem AZ(D:Def K mg "call_unweave" rB ["house","calls"])(T:UC K mg)(bE:cV P w K mg base C "take_number" ["self"] 1 (b9 K C))(bR:cV P w K mg base C "take_row" ["self"] 2 (cN K C))
  (cK:Own P w K mg base "woven_size" ["k","n"] 2 eJ) (c7:Own P w K mg base "is_size" ["n"] 1 gJ) (zJ:Own P w K mg base "unweave" ["k","n","woven"] 3 (uP K)):Own P w K mg base "call_unweave" ["house","calls"] 5 (j8 K C 6):=by
 refine D.own iJ (fun vs H Q E h=>?_) (fun f cdv A outer s H vs Q E hr h=>?_)
 ·obtain⟨ph,p,a,ns,i,c,t,rfl,_⟩:=h;rfl
 ·obtain⟨ph,p,a,ns,i,c,t,rfl,hC,hc,hb,q⟩:=h;(refine aE (BM.kI (by decide) hc) fun k n r1 bO=>?_;refine aC bO fun u e0 e1 cA=>?_;subst cA);have hb':((PyInside.within 0 4294967295 k&&(PyInside.within 0 4294967295 n&&true))&&((decide (0≤u.length)&&decide (u.length≤5000)&&u.all (PyInside.within 0 65535))&&true))=true:=hb;rw[aFm,aFm,aFg,aFg] at hb';(refine aA (cI hb'.1.1) fun k dF hk=>?_;subst dF);(refine aA (cI hb'.1.2) fun n eX hn=>?_;subst eX);(refine aC (jS hb'.2) fun u hE hu1 hu=>?_;subst hE);refine⟨_,(aZ (bK (i:=2) iJ.nd rfl (Or.inl rfl) (cJ bE hr (by decide) (pv 1)))
   (aZ (bK (i:=3) iJ.nd rfl (Or.inl rfl) (cJ bE hr (by decide) (pv 1)))
   (aZ (bK (i:=4) iJ.nd rfl (Or.inl rfl) (cJ bR hr (by decide) (pv 1)))
   (aZ (cE (PW.pt (jM (jT (eO (bN c7 hr (by decide) rfl (aY (pv 2) a6)))) (jM (jT (eO (bN c7 hr (by decide) rfl (aY (pv 3) a6)))) (k0 (bU (gO (bY bQ (by rfl) T.len PySem.boot_len (aY (pv 4) a6)) (bN cK hr (by decide) rfl (aY (pv 2) (aY (pv 3) a6))))))))) (bA (bI (cG (aY (cH rfl T.NOT_AS_TOLD) a6)))) bT)
   (bA (bI (bH jU (cG (aY a8 a6)) (bN zJ hr (by decide) rfl (aY (pv 2) (aY (pv 3) (aY (pv 4) a6))))))))))),?_⟩
  walk_at"0";refine lQ hC e0 fun H1 b1 C1 d1=>?_;walk_at"0";refine lQ C1 d1 fun H2 b2 C2 d2=>?_;rw[←d2] at e1;walk_at"0";refine qL C2 e1 fun H3 pu i3 b3 C3 d3 f3 h3=>?_;rw[dJ] at h3;have bb:=(b1.trans b2).trans b3;have hcall:BrainNeutral.callOf [[6,(k:Int),(n:Int)],u.map (fun (n:Nat)=>(n:Int))]=some (.unweave k n u):=by
   show some (Brain.Call.unweave _ _ (Lines.nats _))=_;rw[eL];rfl
  have refused:(Br.sizeOk k=false∨Br.sizeOk n=false∨u.length≠Br.woven k n)→∀ r,H3 r=none→Q (V.ref r) (upd H3 r (.lst [V.int (-21)])):=fun z=>by
   refine fJ q bb C3 d3 (sC hcall ?_);show (if Br.sizeOk k=false∨Br.sizeOk n=false∨u.length≠Br.woven k n then Brain.says (-21) else _)=_;rw[if_pos z]
  walk_at"0";refine⟨k,rfl,_,rfl,cZ (fun h=>⟨by decide,refused (.inl h)⟩) (fun h=>⟨n,rfl,_,rfl,cZ (fun h2=>⟨by decide,refused (.inr (.inl h2))⟩) (fun h2=>?_)⟩)⟩;have hk':=BM.eQ (m:=k) (by simpa using h);have hn':=BM.eQ (m:=n) (by simpa using h2);have hkn:k*n≤64*64:=Nat.mul_le_mul hk'.2 hn'.2;refine⟨_,.inl (cT.of h3),k,n,rfl,hk'.2,hn'.2,?_⟩;rw[bM];refine⟨_,rfl,cZ (fun h4=>⟨by decide,refused (.inr (.inr ?_))⟩) (fun h4=>?_)⟩
  ·have h5:=of_decide_eq_false h4;exact fun z=>h5 (Int.natCast_inj.mpr z)
  have hsz:u.length=Br.woven k n:=by
   have h5:=aFf (Bool.not_eq_false _ ▸ h4:decide _=true);exact Int.natCast_inj.mp h5
  walk_at"0";refine⟨by decide,fun p1 hp1=>?_⟩;have E4:Same H3 (upd H3 p1 (.lst [V.int 0])):=a9 hp1;refine⟨k,n,pu,u,rfl,cT.of (E4 _ _ h3),hk'.1,hk'.2,hn'.1,hn'.2,hsz,fun H4 q4 EY f4 h4=>?_⟩;refine⟨q4,rfl,_,EY _ _ a7,_,h4,?_,?_⟩
  ·rw[bM,aFd,aFy,sizeLine_eq];have:=BM.oG hk'.2 hn'.2;show 1+_≤_;lia
  ·refine fJ q (bb.trans (.of (E4.trans EY))) (C3.same (E4.trans EY)) d3 (iZ (st:=Brain.start) (l:=(List.range (k*n)).map fun p=>u.toArray.getD (Br.place k (p / n) (p % n)) 0) hcall ?_);show (if Br.sizeOk k=false∨Br.sizeOk n=false∨u.length≠Br.woven k n then Brain.says (-21) else Brain.tells _)=_;rw[if_neg (by
    rintro(z | z | z)
    ·exact h z
    ·exact h2 z
    ·exact z hsz)]
theorem HF(F:Nat→Nat)(n:Nat):∀ m,(List.range m).flatMap (fun i=>(List.range n).map fun j=>F (i*n+j))=(List.range (m*n)).map F
 | 0=>by simp
 | m+1=>by
  rw[List.range_succ,List.flatMap_append,HF F n m,Nat.succ_mul,List.range_add,aFC];congr 1;simp
theorem OM{m k n:Nat}{a wv c:List Nat}(hk:1≤k)(hn:1≤n)(ha:a.length=m*k)(hc:c.length=m*n):
  (((Brain.rowsOf k a).zip (Brain.rowsOf n c)).flatMap fun x=>Br.rowProduct k n x.1 (fun p=>wv.toArray.getD p 0) x.2)=(List.range (m*n)).map (pL k n a wv c):=by
 unfold Brain.rowsOf;rw[ha,hc,Nat.mul_div_cancel _ hk,Nat.mul_div_cancel _ hn,List.zip_map',List.flatMap_map,←HF];rw[List.flatMap_def,List.flatMap_def];refine congrArg List.flatten (aFE fun i hi=>?_);unfold Br.rowProduct;dsimp only;refine aFE fun j hj=>?_;have hj':=List.mem_range.mp hj;obtain⟨d1,d2⟩:=BM.GM (i:=i) hj';unfold pL;rw[d1,d2,BM.dO,BM.rW hj',Nat.mul_comm n i];refine congrArg (Br.sum _) (BM.uK (fun r hr=>?_) fun r hr=>?_)
 ·rw[BM.dO,BM.rW hr,Nat.mul_comm k i]
 ·rw[BM.dO]
theorem A1(D:Def K mg "call_product" rC ["house","calls"])(T:UC K mg)(bE:cV P w K mg base C "take_number" ["self"] 1 (b9 K C))(bR:cV P w K mg base C "take_row" ["self"] 2 (cN K C))
  (cK:Own P w K mg base "woven_size" ["k","n"] 2 eJ) (c7:Own P w K mg base "is_size" ["n"] 1 gJ) (zK:Own P w K mg base "product" ["m","k","n","a","woven","c"] 5 (uR K)):Own P w K mg base "call_product" ["house","calls"] 6 (j8 K C 7):=by
 refine D.own eI (fun vs H Q E h=>?_) (fun f cdv A outer s H vs Q E hr h=>?_)
 ·obtain⟨ph,p,a,ns,i,c,t,rfl,_⟩:=h;rfl
 ·obtain⟨ph,p,a,ns,i,c,t,rfl,hC,hc,hb,q⟩:=h;(refine aE (BM.JS (by decide) hc) fun m k n bO=>?_;refine aE bO fun r1 u r2 cA=>?_;refine aS cA fun v r3 z e0 e1 e2 e3 dF=>?_;subst dF);have hb':((PyInside.within 0 4294967295 m&&(PyInside.within 0 4294967295 k&&(PyInside.within 0 4294967295 n&&true)))&&((decide (0≤u.length)&&decide (u.length≤5000)&&u.all (PyInside.within 0 65535))&&((decide (0≤v.length)&&decide (v.length≤5000)&&v.all (PyInside.within 0 65535))&&((decide (0≤z.length)&&decide (z.length≤5000)&&z.all (PyInside.within 0 4294967295))&&true))))=true:=hb;rw[aFm,aFm] at hb';obtain⟨g1,g2⟩:=Bool.and_eq_true_iff.mp hb';obtain⟨g3,g4⟩:=Bool.and_eq_true_iff.mp g1;obtain⟨g5,g6⟩:=Bool.and_eq_true_iff.mp g4;obtain⟨g7,g8⟩:=Bool.and_eq_true_iff.mp g2;obtain⟨g9,g10⟩:=Bool.and_eq_true_iff.mp g8;clear hb' g1 g2 g4 g8;(refine aA (cI g3) fun m eX hm=>?_;subst eX);(refine aA (cI g5) fun k hE hk=>?_;subst hE);(refine aA (cI g6) fun n p9 hn=>?_;subst p9);(refine aC (jS g7) fun u AS hu1 hu=>?_;subst AS);(refine aC (jS g9) fun v KJ hv1 hv=>?_;subst KJ);(refine aC (jS g10) fun z NO hz1 hz=>?_;subst NO);refine⟨_,(aZ (bK (i:=2) eI.nd rfl (Or.inl rfl) (cJ bE hr (by decide) (pv 1)))
   (aZ (bK (i:=3) eI.nd rfl (Or.inl rfl) (cJ bE hr (by decide) (pv 1)))
   (aZ (bK (i:=4) eI.nd rfl (Or.inl rfl) (cJ bE hr (by decide) (pv 1)))
   (aZ (bK (i:=5) eI.nd rfl (Or.inl rfl) (cJ bR hr (by decide) (pv 1)))
   (aZ (bK (i:=6) eI.nd rfl (Or.inl rfl) (cJ bR hr (by decide) (pv 1)))
   (aZ (bK (i:=7) eI.nd rfl (Or.inl rfl) (cJ bR hr (by decide) (pv 1)))
   (aZ (cE (PW.pt (jM (jT (eO (bN c7 hr (by decide) rfl (aY (pv 2) a6)))) (jM (jT (eO (bN c7 hr (by decide) rfl (aY (pv 3) a6)))) (k0 (jT (eO (bN c7 hr (by decide) rfl (aY (pv 4) a6)))))))) (bA (bI (cG (aY (cH rfl T.NOT_AS_TOLD) a6)))) bT)
   (aZ (cE (PW.pt (jM (bU (gO (bY bQ (by rfl) T.len PySem.boot_len (aY (pv 5) a6)) (bH eC (pv 2) (pv 3)))) (jM (bU (gO (bY bQ (by rfl) T.len PySem.boot_len (aY (pv 6) a6)) (bN cK hr (by decide) rfl (aY (pv 3) (aY (pv 4) a6))))) (k0 (bU (gO (bY bQ (by rfl) T.len PySem.boot_len (aY (pv 7) a6)) (bH eC (pv 2) (pv 4)))))))) (bA (bI (cG (aY (cH rfl T.NOT_AS_TOLD) a6)))) bT)
   (bA (bI (bH jU (cG (aY a8 a6)) (bN zK hr (by decide) rfl (aY (pv 2) (aY (pv 3) (aY (pv 4) (aY (pv 5) (aY (pv 6) (aY (pv 7) a6)))))))))))))))))),?_⟩
  walk_at"0";refine lQ hC e0 fun H1 b1 C1 d1=>?_;walk_at"0";refine lQ C1 d1 fun H2 b2 C2 d2=>?_;walk_at"0";refine lQ C2 d2 fun H3 b3 C3 d3=>?_;rw[←d3] at e1;walk_at"0";refine qL C3 e1 fun H4 pu i4 b4 C4 d4 f4 h4=>?_;rw[←d4] at e2;walk_at"0";refine qL C4 e2 fun H5 pv i5 b5 C5 d5 f5 h5=>?_;rw[←d5] at e3;walk_at"0";refine qL C5 e3 fun H6 pz i6 b6 C6 d6 f6 h6=>?_;rw[dJ] at h4 h5 h6;have nep:∀ {q:Addr} {H':Hp} {i':Nat},cU K C H' p a ns i'→H' q=none→q≠p:=fun cc hq zz=>by
   obtain⟨dx,h⟩:=cc.at_;rw[zz,h] at hq;cases hq
  have h4':=b6 _ _ (b5 _ _ h4 (nep C3 f4)) (nep C3 f4);have h5':=b6 _ _ h5 (nep C4 f5);have bb:=((((b1.trans b2).trans b3).trans b4).trans b5).trans b6;have hcall:BrainNeutral.callOf [[7,(m:Int),(k:Int),(n:Int)],u.map (fun (n:Nat)=>(n:Int)),v.map (fun (n:Nat)=>(n:Int)),z.map (fun (n:Nat)=>(n:Int))]=some (.product m k n u v z):=by
   show some (Brain.Call.product _ _ _ (Lines.nats _) (Lines.nats _) (Lines.nats _))=_;rw[eL,eL,eL];rfl
  have refused:(Br.sizeOk m=false∨Br.sizeOk k=false∨Br.sizeOk n=false∨u.length≠m*k∨v.length≠Br.woven k n∨z.length≠m*n)→∀ r,H6 r=none→Q (V.ref r) (upd H6 r (.lst [V.int (-21)])):=fun zz=>by
   refine fJ q bb C6 d6 (sC hcall ?_);show (if Br.sizeOk m=false∨Br.sizeOk k=false∨Br.sizeOk n=false∨u.length≠m*k∨v.length≠Br.woven k n∨z.length≠m*n then Brain.says (-21) else _)=_;rw[if_pos zz]
  clear g3 g5 g6 g7 g9 g10 hc hb;have WA:∀ {x y:Nat} {z:Int},z=(y:Int)→decide ((x:Int)=z)=false→x≠y:=fun hz h zz=>by
   have h5:=of_decide_eq_false h;exact h5 (by rw[hz,zz])
  have W8:∀ {x y:Nat} {z:Int},z=(y:Int)→¬decide ((x:Int)=z)=false→x=y:=fun hz h=>by
   have h5:=aFf (Bool.not_eq_false _ ▸ h:decide _=true);rw[hz] at h5;exact Int.natCast_inj.mp h5
  walk_at"0";refine⟨m,rfl,_,rfl,cZ (fun h=>⟨by decide,refused (.inl h)⟩) (fun k1=>⟨k,rfl,_,rfl,cZ (fun h=>⟨by decide,refused (.inr (.inl h))⟩) (fun k2=>⟨n,rfl,_,rfl,cZ (fun h=>⟨by decide,refused (.inr (.inr (.inl h)))⟩) (fun k3=>?_)⟩)⟩)⟩;have hm':=BM.eQ (m:=m) (by simpa using k1);have hk':=BM.eQ (m:=k) (by simpa using k2);have hn':=BM.eQ (m:=n) (by simpa using k3);have emk:(m:Int)*(k:Int)=((m*k:Nat):Int):=(aFw _ _).symm;have emn:(m:Int)*(n:Int)=((m*n:Nat):Int):=(aFw _ _).symm;walk_at"0";refine⟨_,.inl (cT.of h4'),.inl ⟨by lia,by lia⟩,?_⟩;rw[bM];refine cZ (fun h=>⟨by decide,refused (.inr (.inr (.inr (.inl (WA emk h)))))⟩) (fun k4=>⟨_,.inl (cT.of h5'),k,n,rfl,hk'.2,hn'.2,_,rfl,?_⟩);rw[bM];refine cZ (fun h=>⟨by decide,refused (.inr (.inr (.inr (.inr (.inl (WA rfl h))))))⟩) (fun k5=>⟨_,.inl (cT.of h6),.inl ⟨by lia,by lia⟩,?_⟩);rw[bM];refine cZ (fun h=>⟨by decide,refused (.inr (.inr (.inr (.inr (.inr (WA emn h))))))⟩) (fun k6=>?_);have s4:=W8 emk k4;have s5:=W8 rfl k5;have s6:=W8 emn k6;walk_at"0";refine⟨by decide,fun p1 hp1=>?_⟩;have E4:Same H6 (upd H6 p1 (.lst [V.int 0])):=a9 hp1;refine⟨m,k,n,pu,pv,pz,u,v,z,rfl,cT.of (E4 _ _ h4'),cT.of (E4 _ _ h5'),cT.of (E4 _ _ h6),hm'.1,hm'.2,hk'.1,hk'.2,hn'.1,hn'.2,s4,s5,s6,fun y hy=>by have:=hu y hy;lia,fun y hy=>by have:=hv y hy;lia,fun y hy=>by have:=hz y hy;lia,fun H7 q7 OB f7 h7=>?_⟩;have hmn:m*n≤64*64:=Nat.mul_le_mul hm'.2 hn'.2;refine⟨q7,rfl,_,OB _ _ a7,_,h7,?_,?_⟩
  ·rw[bM,aFd,aFy,sizeLine_eq];show 1+_≤_;lia
  ·refine fJ q (bb.trans (.of (E4.trans OB))) (C6.same (E4.trans OB)) d6 (iZ (st:=Brain.start) (l:=(List.range (m*n)).map (pL k n u v z)) hcall ?_);show (if Br.sizeOk m=false∨Br.sizeOk k=false∨Br.sizeOk n=false∨u.length≠m*k∨v.length≠Br.woven k n∨z.length≠m*n then Brain.says (-21) else Brain.tells _)=_;rw[if_neg (by
    rintro(zz | zz | zz | zz | zz | zz)
    ·exact k1 zz
    ·exact k2 zz
    ·exact k3 zz
    ·exact zz s4
    ·exact zz s5
    ·exact zz s6),OM hk'.1 hn'.1 s4 s6]
end
def isPure:Brain.Call→Bool
 | .step _ _ _=>true
 | .narrow _=>true
 | .widen _=>true
 | .greatest _=>true
 | .sum _ _ _=>true
 | .weave _ _ _=>true
 | .unweave _ _ _=>true
 | .product _ _ _ _ _ _=>true
 | _=>false
theorem iT{c:List (List Int)}{x:Brain.Call}(h:BrainNeutral.callOf c=some x)(hp:isPure x=true)(st:Brain.State):BrainNeutral.step st c=(st,ans c):=by
 unfold ans BrainNeutral.step;rw[h];cases x <;> first | rfl | cases hp
theorem YV{n:Int}{r t:List Int}{c:List (List Int)}(h0:0≤n)(h7:n≤7)(h:PyFlat.call PyWrbrnr.shape (n::r)=some (c,t))(st:Brain.State):BrainNeutral.step st c=(st,ans c):=by
 have hn:n=0∨n=1∨n=2∨n=3∨n=4∨n=5∨n=6∨n=7:=by lia
 rcases hn with rfl | rfl | rfl | rfl | rfl | rfl | rfl | rfl
 ·(refine aP (BM.JT (by decide) h) fun x y z _ bO=>?_;subst bO);exact iT (x:= .step x.toNat y.toNat z.toNat) rfl rfl st
 ·(refine aA (BM.lL (by decide) h) fun a _ cA=>?_;subst cA);exact iT (x:= .narrow (Lines.nats a)) rfl rfl st
 ·(refine aA (BM.lL (by decide) h) fun a _ dF=>?_;subst dF);exact iT (x:= .widen (Lines.nats a)) rfl rfl st
 ·(refine aA (BM.lL (by decide) h) fun a _ eX=>?_;subst eX);exact iT (x:= .greatest (Lines.nats a)) rfl rfl st
 ·(refine aE (BM.xO (by decide) h) fun x s a hE=>?_;refine aN hE fun s' b _ _ _ p9=>?_;subst p9);exact iT (x:= .sum x.toNat (Lines.nats a) (Lines.nats b)) rfl rfl st
 ·(refine aE (BM.kI (by decide) h) fun x y s AS=>?_;refine aC AS fun a _ _ KJ=>?_;subst KJ);exact iT (x:= .weave x.toNat y.toNat (Lines.nats a)) rfl rfl st
 ·(refine aE (BM.kI (by decide) h) fun x y s NO=>?_;refine aC NO fun a _ _ zz9=>?_;subst zz9);exact iT (x:= .unweave x.toNat y.toNat (Lines.nats a)) rfl rfl st
 ·(refine aE (BM.JS (by decide) h) fun x y z NP=>?_;refine aE NP fun s a s' US=>?_;refine aS US fun b s'' d _ _ _ _ aAy=>?_;subst aAy);exact iT (x:= .product x.toNat y.toNat z.toNat (Lines.nats a) (Lines.nats b) (Lines.nats d)) rfl rfl st
theorem aCN{K:W.Frag}{h:Heap}{mg:Str→Option Value}{x:Str}{i:Int}{t:Tok}(X:K.In h)(G:h.Ns mainGlobals mg)(e:W.nsIn K mainGlobals x=some (some (.int i t))):GI mg x i:=⟨t,W.mg_of X G e⟩
theorem y0{K:W.Frag}{h:Heap}{mg:Str→Option Value}{x:Str}{st:Stmt}{ps:List Str}{f:Addr}{od an:Option Addr}{sl:Array (Option Value)}{oc kV dc pm cd ct:Value}(X:K.In h)(G:h.Ns mainGlobals mg)
  (hb:∀ (kV doc pm:Value) (an:Option Addr) (cdv ct:Value) (us:List Value),us.length=ps.length→bindArgs (W.fnOf x x (iL st) (cX st) (bC st) .none kV doc pm an cdv ct) ⟨us,[]⟩=pure (ps.zip us))
  (a:W.nsIn K mainGlobals x=some (some (.ref f))) (l:K.lookup f=some ⟨oc,od,.func (W.fnOf x x (iL st) (cX st) (bC st) .none kV dc pm an cd ct),sl⟩) (c:W.codeIn K cd x=true) (k:W.keepIn K (.ref f)=true):Def K mg x st ps:=by
 have F:=PV (st:=st) l c k;exact⟨f,_,W.mg_of X G a,F,F.binds hb⟩
theorem ZE{K:W.Frag}{C:Addr}{m qual:Str}{st:Stmt}{ps:List Str}{f:Addr}{od an:Option Addr}{sl:Array (Option Value)}{oc kV dc pm cd ct:Value}
  (hb:∀ (kV doc pm:Value) (an:Option Addr) (cdv ct:Value) (us:List Value),us.length=ps.length→bindArgs (W.fnOf m qual (iL st) (cX st) (bC st) .none kV doc pm an cdv ct) ⟨us,[]⟩=pure (ps.zip us))
  (a:W.findIn K (.ref C) m=some (some (.ref f))) (i:W.isFn K (.ref f)=true) (l:K.lookup f=some ⟨oc,od,.func (W.fnOf m qual (iL st) (cX st) (bC st) .none kV dc pm an cd ct),sl⟩) (c:W.codeIn K cd qual=true) (k:W.keepIn K (.ref f)=true):pV K C m qual st ps:=by
 have F:=PV (st:=st) l c k;exact⟨f,_,⟨a,i,k⟩,F,F.binds hb⟩
def UI(f:Addr)(o:Obj):HO:= .ext fun h=>h.get? f=some o
def CdO(c:Addr)(q:Str):HO:= .ext fun h=>h.CodeRec (.ref c) q
theorem RH{P:Program}{w:World}{H:Hp}{h:Heap}{f:Addr}{o:Obj}(e:h.get? f=some o):jH P w H h f (UI f o):=⟨e,⟨o,e⟩,fun h1 h2 a b=>b _ a⟩
theorem aBN{P:Program}{w:World}{H:Hp}{h:Heap}{c:Addr}{q:Str}(e:h.CodeRec (.ref c) q):jH P w H h c (CdO c q):=by
 refine⟨e,?_,fun h1 h2 a b=>?_⟩
 ·(refine aE e fun c' o vs bO=>?_;refine aC bO fun t e1 e2 _=>?_);cases e1;exact⟨o,e2⟩
 ·(refine aE a fun c' o vs cA=>?_;refine aC cA fun t e1 e2 r=>?_);cases e1;exact⟨c,o,vs,t,rfl,b _ e2,r⟩
def uD(H:Hp)(P:Addr)(pos:Pos)(q:Str):Prop:=H P=some (.qA #[])∨∃ c,H P=some (.qA #[rawInt pos.line,rawInt pos.col,.ref c])∧H c=some (CdO c q)
theorem uD.but{p P:Addr}{H H':Hp}{pos:Pos}{q:Str}{u:HO}(b:But p H H')(hp:H p=some u)(hu:Mut (some u))(hn:∀ φ,u≠.ext φ)(t:uD H P pos q):uD H' P pos q:=by
 rcases t with t | ⟨c,t1,t2⟩
 ·exact .inl (b _ _ t fun z=>by rw[z,hp] at t;cases t;exact hu)
 ·refine .inr ⟨c,b _ _ t1 fun z=>?_,b _ _ t2 fun z=>?_⟩
  ·rw[z,hp] at t1;cases t1;exact hu
  ·rw[z,hp] at t2;exact hn _ (aFa t2)
theorem uD.same{P:Addr}{H H':Hp}{pos:Pos}{q:Str}(b:Same H H')(t:uD H P pos q):uD H' P pos q:=by
 rcases t with t | ⟨c,t1,t2⟩
 ·exact .inl (b _ _ t)
 ·exact .inr ⟨c,b _ _ t1,b _ _ t2⟩
def XD(P:Program)(w:World)(K:W.Frag)(mg:Str→Option Value)(base:Heap)(N:List Str)(qual:Str)(scope:Scope)(f:Addr)(cd:Value)(cl:List (Str×Addr))(A:Around)(outer:List Env)(s:Shared)(H:Hp):Cx where
 prog:=P
 w:=w
 K:=K
 mg:=mg
 base:=base
 A:=A.deeper (W.envX qual scope s.heap.objs.size f cd cl)
 N:=N
 s_0:=s
 H_0:=H
 env:=W.envX qual scope s.heap.objs.size f cd cl
 outer:=outer
 stack:=W.envX qual scope s.heap.objs.size f cd cl::outer
 ex:=[]
 calm:=true
 fn:=fun _=>false
 pn:=[]
 xe:=fun _ _=>False
structure NG(ps fr:List Str)(cl:List (Str×Addr))(sc:Scope):Prop where
 kind:sc.kind= .function
 co:sc.isCoroutine=false
 gen:sc.isGenerator=false
 nd:ps.Nodup
 V5:∀ y∈sc.names,y.2≠.cell
 par:∀ x∈ps,sc.names.lookup x=some .local
 free:∀ x∈fr,sc.names.lookup x=some .free
 has:∀ x,sc.names.lookup x=some .free→∃ c,cl.lookup x=some c
 inj:∀ x y c,cl.lookup x=some c→cl.lookup y=some c→x=y
theorem uB{x:Str}{u:Value}:∀ {l:List (Str×Value)},(l.map (·.1)).Nodup→(x,u)∈l→l.lookup x=some u
 | [],_,h=>by cases h
 | (y,v)::r,nd,h=>by
  rw[List.map_cons,aFB] at nd;rw[aFD];rcases aEZ.mp h with e | hm
  ·cases e;rw[beq_self_eq_true]
  ·have ne:(x==y)=false:=by
    cases q:x==y with
    | false=>rfl
    | true=>
     have q':=eq_of_beq q;subst q';exact absurd (show x∈r.map (fun p=>p.1) from aFz.mpr ⟨(x,u),hm,rfl⟩) nd.1
   rw[ne];exact uB nd.2 hm
theorem zO:∀ {ps:List Str} {us:List Value},us.length=ps.length→(ps.zip us).map (·.1)=ps
 | [],_,_=>rfl
 | p::ps,[],h=>by cases h
 | p::ps,u::us,h=>by
  rw[List.zip_cons_cons,List.map_cons,zO (by simpa using h)]
theorem D0{P:Program}{w:World}{K:W.Frag}{mg:Str→Option Value}{base:Heap}{k:Nat}{f c:Addr}{qual:Str}{params:Arguments}{body:Expr}{scope:Scope}{cl:List (Str×Addr)}{pm ctv:Value}{ps fr:List Str}{fv:List V}{sp:Sp}
  (lk:base.get? f=some (W.kla_obj "<lambda>" qual params body scope cl pm c ctv)) (S:NG ps fr cl scope) (hfl:fv.length=fr.length)
  (hfr:∀ (i:Nat) (x:Str) (v:V),fr[i]?=some x→fv[i]?=some v→∃ a u,cl.lookup x=some a∧base.IsCell a (some u)∧RelV v u)
  (hcl:∀ x a,cl.lookup x=some a→∃ v,base.IsCell a v)
  (len:∀ vs H Q E,sp vs H Q E→vs.length=ps.length)
  (hbody:∀ (A:Around) (outer:List Env) (s:Shared) (H:Hp) (vs:List V) (Q:VK) (E:XK),f8 k (A.deeper (W.envX qual scope s.heap.objs.size f (.ref c) cl))→sp vs H Q E →
   H c=some (CdO c qual)∧∃ t,PE (XD P w K mg base (ps++fr) qual scope f (.ref c) cl A outer s H) body t∧t (vs.map some++fv.map some) H Q):
  mU P w K mg base R9 (k+1) f (W.kla_fn "<lambda>" qual params body scope cl pm (.ref c) ctv) ps sp:=by
 refine⟨len,fun A outer s H args us vs Q E hr e0 hb r hsp=>?_⟩;have hl:=len _ _ _ _ hsp;have hul:us.length=ps.length:=by rw[←r.length];exact hl
 (refine aD (hbody A outer s H vs Q E (hr.deeper _) hsp) fun hc bO=>?_;refine aA bO fun t ht hq=>?_);have lim:s.heap.NoLimit:=e0.mod.nolimit.keeps fun b o e=>(e0.bs b o e).1;have hcd:s.heap.CodeRec (.ref c) qual:=(e0.hok c _ hc).1;refine W.kla_callFunE hr.depth (e0.bs _ _ lk).1 rfl S.co S.gen rfl hcd (hb _ _ _ _ ?_);have hloc:∀ y∈ps.zip us,scope.names.lookup y.1=some .local:=fun ⟨n,v⟩ hy=>S.par n (List.of_mem_zip hy).1;refine wpAny_newFunctionEnv S.V5 hloc (fun h₁ hns hsb=>⟨lim.fresh _ hsb,?_⟩) S.kind;show codeAny _ _ (.expr body (W.envX qual scope s.heap.objs.size f (.ref c) cl)) _ _;have hk₁:∀ b o,s.heap.get? b=some o→h₁.get? b=some o:=fun b o e=>hsb.extBut b o (Nat.ne_of_lt (Heap.lt_size e)) (Heap.get?_push_of_some _ e);have X1:∀ b:Addr,b∉(XD P w K mg base (ps++fr) qual scope f (.ref c) cl A outer s H).ex:=fun b z=>absurd (show b∈([]:List Addr) from z) (by simp);have HK:∀ a v,base.IsCell a v→h₁.IsCell a v∧H a=none:=fun a v cA=>aA cA fun o ho hd=>⟨⟨o,hk₁ _ _ (e0.bs _ _ ho).1,hd⟩,(e0.bs _ _ ho).2⟩;have I:Inv (XD P w K mg base (ps++fr) qual scope f (.ref c) cl A outer s H) [] (vs.map some++fv.map some) H {s with heap:=h₁,toks:=s.toks+(ps.zip us).length}:=by
  refine⟨⟨e0.mod,S.kind,rfl,rfl,aFi _,S.inj,fun y hy=>?_,fun y a z _=>Bool.noConfusion (show false=true from z),fun _=>hr.hd,Around.frames_deeper e0.frames,.inr ⟨rfl,rfl⟩,fun b z=>absurd z (X1 b),e0.bs,e0.XJ,fun b _ _=>X1 b,fun b z=>absurd z (X1 b),e0.xH,e0.frf⟩,
   rfl,e0.bare,Un.kept hk₁,⟨_,hns,fun i y v h1 h2 h3=>?_⟩,fun y a h=>?_,e0.hok.fresh (aFi _),fun y a h=>?_,fun p hp=>absurd (show p∈([]:List (Addr×Obj)) from hp) (by simp),e0.hok.kept hk₁,?_⟩
  ·have hy:scope.names.lookup y=some .cell∨scope.names.lookup y=some .free:=hy;rcases hy with hy | hy
   ·exact absurd rfl (S.V5 _ (PySem.mem_of_lookup hy))
   ·exact S.has y hy
  ·have h1:(ps++fr)[i]?=some y:=h1;by_cases hi:i<ps.length
   ·rw[aFK hi] at h1;rw[aFK (by rw[aFd,hl];exact hi),aFH] at h2
    cases e:vs[i]? with
    | none=>rw[e] at h2;cases h2
    | some a=>
     rw[e] at h2;cases h2;refine aA (r.get e) fun u hu rv=>?_;refine⟨u,rv,.inl ⟨S.par y (aFO h1),?_⟩⟩;refine uB ?_ (List.mem_reverse.mpr ?_)
     ·rw[List.map_reverse,zO hul];exact List.pairwise_reverse.mpr (S.nd.imp fun h=>h.symm)
     ·have:(ps.zip us)[i]?=some (y,u):=by
       rw[List.getElem?_zip_eq_some];exact⟨h1,hu⟩
      exact aFO this
   ·rw[aFu (by lia)] at h1;rw[aFu (by rw[aFd,hl];lia),aFd,hl,aFH] at h2
    cases e:fv[i-ps.length]? with
    | none=>rw[e] at h2;cases h2
    | some a=>
     rw[e] at h2;cases h2;refine aB (hfr _ _ _ h1 e) fun a' u q1 q2 q3=>?_;exact⟨u,q3,.inr ⟨.inr (S.free y (aFO h1)),a',q1,(HK a' _ q2).1⟩⟩
  ·obtain⟨v,q⟩:=hcl y a h;exact⟨v,(HK a v q).1⟩
  ·obtain⟨v,q⟩:=hcl y a h;exact(HK a v q).2
  ·show (vs.map some++fv.map some).length=(ps++fr).length;rw[aFb,aFd,aFd,aFb,hl,hfl]
 refine W.kla_codeExpr (wpAny_mono (ht [] _ _ H Q I hq) (fun u s' hs=>?_) fun e s' hs=>hs.elim);refine aB hs fun v H' J rv q=>?_;exact⟨v,H',J.os,J.bare,J.base,J.hok,rv,q⟩
def FY(base:Heap)(mg:Str→Option Value):Prop:=∃ bm ob,mg "__builtins__"=some (.ref bm)∧bm≠builtinsNs∧base.get? bm=some ob∧ob.cls= .type "module"∧ob.dict=some builtinsNs∧ob.data= .plain
def del(H:Hp)(f:Addr):Hp:=fun b=>if b=f then none else H b
theorem fN{H:Hp}{f:Addr}:del H f f=none:=by unfold del;rw[if_pos rfl]
theorem dU{H:Hp}{f b:Addr}(h:b≠f):del H f b=H b:=by unfold del;rw[if_neg h]
def aAE(T:Addr)(pos:Pos)(q:Str)(params:Arguments)(body:Expr)(scope:Scope)(cl:List (Str×Addr)):TE:=fun σ H Q=>uD H T pos q∧∀ (H':Hp) (f c:Addr) (pm ctv:Value),
 But T H H'→uD (del H' f) T pos q→H f=none→H' f=some (UI f (W.kla_obj "<lambda>" q params body scope cl pm c ctv))→del H' f c=some (CdO c q)→Q (.ref f) H'
theorem DD{X:Cx}{params:Arguments}{body:Expr}{scope:Scope}{pos:Pos}{c0 T:Addr}{cl:List (Str×Addr)}{q:Str}(hcode:X.env.code= .ref c0)(hC:W.codeHdIn X.K c0 T=true)(hB:FY X.base X.mg)
  (hcl:closureFor scope X.env=pure cl) (hq:X.env.qual++"<lambda>"=q:=by rfl) (hdef:defaultsOf params X.env=([],[]):=by rfl):PE X (.Lambda params body scope pos) (aAE T pos q params body scope cl):=by
 intro pins s σ H Q I h;obtain⟨ht,k⟩:=h;subst hq;refine W.kla_eval hdef ?_;have hg:s.heap.Ns mainGlobals X.mg:=I.mod.glob.keeps I.bk;have C:W.CodeHd s.heap c0 T:=W.codeHd_of_K I.D3 hC;have hT:∃ ps,H T=some (.qA ps):=by
  rcases ht with e | ⟨c,e,_⟩
  ·exact⟨_,e⟩
  ·exact⟨_,e⟩
 obtain⟨ps0,eT⟩:=hT;have hgP:mainGlobals≠T:=fun z=>by
  refine aP I.mod.glob fun o es ep e _=>?_;have:=(I.bs _ _ e).2;rw[z,eT] at this;cases this
 have hb:s.heap.BuiltinsAt X.mg T:=by
  refine aI hB fun bm ob b1 b2 b3 b4 b5 b6=>?_;have eb:=b3;refine⟨bm,ob,b1,b2,fun z=>?_,fun z=>?_,(I.bs _ _ eb).1,b4,b5,b6⟩
  ·refine aJ I.mod.glob fun o es ep e d _=>?_;rw[←z,eb] at e;cases e;rw[b6] at d;cases d
  ·have:=(I.bs _ _ eb).2;rw[z,eT] at this;cases this
 rcases ht with e | ⟨c,e,ec⟩
 ·have hP:s.heap.get? T=some (W.tabObj #[]):=I.hok T _ e;refine W.kla_makeFunction hcl I.ok.glob hg hcode C hP trivial rfl hgP hb fun c' ctv h' tk hx hge hlt hrec htb=>?_;generalize hO:W.kla_obj "<lambda>" (X.env.qual++"<lambda>") params body scope cl ((X.mg "__name__").getD .none) c' ctv=o;have hc0:H c'=none:=I.hok.fresh hge;have JM:H h'.objs.size=none:=I.hok.fresh (aFt hge (Nat.le_of_lt hlt));have ncf:c'≠h'.objs.size:=Nat.ne_of_lt hlt;have nT:∀ b,H b=none→b≠T:=fun b n z=>by rw[z,e] at n;cases n
  have aCR:(#[]++#[rawInt pos.line,rawInt pos.col,.ref c']:Array Value)=#[rawInt pos.line,rawInt pos.col,.ref c']:=by rw[Array.empty_append]
  rw[aCR] at htb;generalize hH:upd (upd (upd H T (.qA #[rawInt pos.line,rawInt pos.col,.ref c'])) c' (CdO c' (X.env.qual++"<lambda>"))) h'.objs.size (UI h'.objs.size o)=H';have aCT:H' h'.objs.size=some (UI h'.objs.size o):=by rw[←hH];exact a7
  have aBS:H' c'=some (CdO c' (X.env.qual++"<lambda>")):=by rw[←hH,bF ncf];exact a7
  have aBT:H' T=some (.qA #[rawInt pos.line,rawInt pos.col,.ref c']):=by
   rw[←hH,bF (Ne.symm (nT _ JM)),bF (Ne.symm (nT _ hc0))];exact a7
  have aBR:∀ b,b≠T→b≠c'→b≠h'.objs.size→H' b=H b:=fun b h1 h2 h3=>by rw[←hH,bF h3,bF h2,bF h1]
  have old:∀ b u,H b=some u→b≠T→H' b=some u:=fun b u q n=>by
   rw[aBR b n (fun z=>by rw[z,hc0] at q;cases q) (fun z=>by rw[z,JM] at q;cases q)];exact q
  have RK:∀ b u,b≠T→s.heap.get? b=some u→(h'.push o).get? b=some u:=fun b u n q=>Heap.get?_push_of_some _ (hx b u n q);have aCy:∀ b u,s.heap.get? b=some u→b≠c'∧b≠h'.objs.size:=fun b u q=>by
   have:=Heap.lt_size q;exact⟨Nat.ne_of_lt (aFs this hge),Nat.ne_of_lt (aFs this (aFt hge (Nat.le_of_lt hlt)))⟩
  have un:Un X.fs [] H H' s.heap (h'.push o):=by
   refine⟨fun b u q n _ _=>RK b u (nT b n) q,fun b u q n _ _=>⟨u.slots,RK b u (nT b n) q⟩,fun b u q n _=>?_,fun b u q _=>?_,fun b xs q=>old b _ q fun z=>?_,fun b u xs q=>old b _ q fun z=>?_,fun b ps q=>?_⟩
   ·rw[aBR b (nT b n) (aCy b u q).1 (aCy b u q).2];exact n
   ·by_cases z:b=T
    ·subst z;exact⟨_,Heap.get?_push_of_some _ htb⟩
    ·exact⟨u,RK b u z q⟩
   ·rw[z,e] at q;cases q
   ·rw[z,e] at q;cases q
   ·by_cases z:b=T
    ·subst z;rw[e] at q;cases q;exact⟨_,by rw[aBT,aCR]⟩
    ·exact⟨#[],by rw[old b _ q z];simp⟩
  have hok:xY X.prog X.w H' (h'.push o):=fun b u q=>by
   by_cases z:b=h'.objs.size
   ·subst z;rw[aCT] at q;cases q;exact RH (Heap.get?_push_size _ (by rw[←hO];rfl))
   ·by_cases z2:b=c'
    ·subst z2;rw[aBS] at q;cases q;refine aBN ?_;(refine aE hrec fun c2 oc vs bO=>?_;refine aC bO fun t e1 e2 r=>?_);exact⟨c2,oc,vs,t,e1,Heap.get?_push_of_some _ e2,r⟩
    ·by_cases z3:b=T
     ·subst z3;rw[aBT] at q;cases q;exact Heap.get?_push_of_some _ htb
     ·rw[aBR b z3 z2 z] at q;refine(I.hok b u q).stay (fun d v hd g=>RK d v ?_ g) (fun d g=>old d _ g fun z4=>?_) fun d xs g=>old d _ g fun z4=>?_
      ·rcases hd with rfl | hd
       ·exact z3
       ·intro z4;rw[z4,e] at hd;cases hd
      ·rw[z4,e] at g;cases g
      ·rw[z4,e] at g;cases g
  refine⟨.ref h'.objs.size,H',I.un (t':=tk) un hok,rfl,k H' _ c' ((X.mg "__name__").getD .none) ctv (fun b u q n=>old b u q n) (.inr ⟨c',by rw[dU (Ne.symm (nT _ JM))];exact aBT,by rw[dU ncf];exact aBS⟩) JM ?_ (by rw[dU ncf];exact aBS)⟩;rw[aCT,hO]
 ·have hP:s.heap.get? T=some (W.tabObj #[rawInt pos.line,rawInt pos.col,.ref c]):=I.hok T _ e;refine W.kla_makeFunctionHit (cv:= .ref c) hcl I.ok.glob hg hcode C hP trivial (by simp [codeAmong,rawInt]) hb fun ctv h' tk hx hge=>?_;have JM:H h'.objs.size=none:=I.hok.fresh hge;have I':=I.laid (a:=h'.objs.size) (o:=UI h'.objs.size (W.kla_obj "<lambda>" (X.env.qual++"<lambda>") params body scope cl ((X.mg "__name__").getD .none) c ctv)) (t':=tk) (h':=h'.push (W.kla_obj "<lambda>" (X.env.qual++"<lambda>") params body scope cl ((X.mg "__name__").getD .none) c ctv))
   (fun b u q=>Heap.get?_push_of_some _ (hx b u q)) hge (RH (Heap.get?_push_size _ rfl))
  have old:∀ b u,H b=some u→b≠h'.objs.size:=fun b u q z=>by rw[z,JM] at q;cases q
  refine⟨.ref h'.objs.size,_,I',rfl,k _ _ c ((X.mg "__name__").getD .none) ctv (fun b u q n=>?_) (.inr ⟨c,?_,?_⟩) JM a7 ?_⟩
  ·rw[bF (old b u q)];exact q
  ·rw[dU (old _ _ e),bF (old _ _ e)];exact e
  ·rw[dU (old _ _ ec),bF (old _ _ ec)];exact ec
  ·rw[dU (old _ _ ec),bF (old _ _ ec)];exact ec
def jY(base:Heap)(f:Addr)(cs:List (Str×Addr))(b:Addr):Bool:=(base.get? b).isSome||b==f||cs.any fun p=>cs.lookup p.1==some b
def baseOf(h base:Heap)(f:Addr)(cs:List (Str×Addr)):Heap:=W.hideAll h ((List.range h.objs.size).filter fun b=> !jY base f cs b)
theorem P6{h base:Heap}{f:Addr}{cs:List (Str×Addr)}{b:Addr}{o:Obj}(e:h.get? b=some o)(k:jY base f cs b=true):(baseOf h base f cs).get? b=some o:=
 W.hideAll_get _ e fun z=>by
  have:=(List.mem_filter.mp z).2;rw[k] at this;cases this
theorem S4{h base:Heap}{f:Addr}{cs:List (Str×Addr)}{b:Addr}{o:Obj}(e:(baseOf h base f cs).get? b=some o):h.get? b=some o∧jY base f cs b=true:=by
 have e':h.get? b=some o:=W.of_hideAll _ e;refine⟨e',?_⟩
 cases q:jY base f cs b with
 | true=>rfl
 | false=>
  have hm:b∈(List.range h.objs.size).filter fun b=> !jY base f cs b:=List.mem_filter.mpr ⟨List.mem_range.mpr (Heap.lt_size e'),by rw[q];rfl⟩;have z:(baseOf h base f cs).get? b=none:=W.hideAll_none _ hm;rw[z] at e;cases e
theorem xB{base:Heap}{f:Addr}{cs:List (Str×Addr)}{b:Addr}(h:jY base f cs b=true):(∃ o,base.get? b=some o)∨b=f∨∃ x,cs.lookup x=some b:=by
 unfold jY at h;rw[aFU,aFU] at h;rcases h with (h | h) | h
 ·exact .inl (Option.isSome_iff_exists.mp h)
 ·exact .inr (.inl (eq_of_beq h))
 ·refine aA (List.any_eq_true.mp h) fun p _ hp=>?_;exact .inr (.inr ⟨p.1,eq_of_beq hp⟩)
theorem MH{base:Heap}{f:Addr}{cs:List (Str×Addr)}{x:Str}{c:Addr}(h:cs.lookup x=some c):jY base f cs c=true:=by
 unfold jY;rw[aFU];refine .inr (List.any_eq_true.mpr ⟨(x,c),PySem.mem_of_lookup h,?_⟩);show (cs.lookup x==some c)=true;rw[h];exact beq_self_eq_true _
def IA(X:Cx)(spg:Heap→Sp)(ta:TA):TE:=fun σ H Q=>ta σ H fun vs H1=>∃ f o,H1 f=some (UI f o)∧∀ b:Heap,b.get? f=some o→(∀ x c,X.env.cells.lookup x=some c→∃ v,b.IsCell c v) →
 (∀ (i:Nat) (x:Str) (v:V),X.N[i]?=some x→σ[i]?=some (some v)→X.env.kindOf x=some .cell→∃ c u,X.env.cells.lookup x=some c∧b.IsCell c (some u)∧RelV v u)→spg b vs (del H1 f) Q E0
theorem oZ{X:Cx}{x:Str}{ps:List Str}{j k:Nat}{spg:Heap→Sp}{e:Expr}{es:List Expr}{t:TA}{p pos:Pos}(O:∀ b,Own X.prog X.w X.K X.mg b x ps j (spg b))(hr:f8 k X.A)(hjk:j≤k)(hfn:∀ y,X.fn y=true)(hg:Gl X x)(ha:PA X (e::es) t)
  (hdb:(x==("__debug__":Str))=false:=by decide) (he:starEach (e::es) X.env=(false,eval e X.env)::starEach es X.env:=by rfl) (hpl:(backTo pos (starEach es X.env)).any (·.1)=false:=by rfl):
  PE X (.Call (.Name x p) (e::es) [] pos) (IA X spg t):=by
 intro pins s σ H Q I h;refine aN (id (O X.base)) fun g _ hm kp _ _=>?_;refine wpAny_Call_Name_kw (w8 I hg hm ?_ hdb);refine W.callWith_K (h₀:=X.base) I.ok.mod.kin kp (eR (ha pos pins s σ H _ I h) fun us s1 bO=>aB bO fun vs H1 I1 r cA=>aH cA fun f o hf q=>⟨I1.D3,?_⟩) he hpl;have ef:s1.heap.get? f=some o:=(I1.hok f _ hf).1;generalize hb:baseOf s1.heap X.base f X.env.cells=b;have bof:∀ {a:Addr} {u:Obj},s1.heap.get? a=some u→jY X.base f X.env.cells a=true→b.get? a=some u:=fun e k=>by rw[←hb];exact P6 e k
 have ofb:∀ {a:Addr} {u:Obj},b.get? a=some u→s1.heap.get? a=some u∧jY X.base f X.env.cells a=true:=fun e=>S4 (by rw[hb];exact e);have up:∀ a u,X.base.get? a=some u→b.get? a=some u:=fun a u e=>bof (I1.bk a u e) (by unfold jY;rw[e];rfl);have hbf:b.get? f=some o:=bof ef (by unfold jY;rw[beq_self_eq_true,Bool.or_true,Bool.true_or]);have HK:∀ {y:Str} {c:Addr} {v:Option Value},X.env.cells.lookup y=some c→s1.heap.IsCell c v→b.IsCell c v:=fun hy dF=>aA dF fun u e1 e2=>⟨u,bof e1 (MH hy),e2⟩;have sp:=q b hbf (fun y c hy=>by
   obtain⟨v,hv⟩:=I1.cell y c hy;exact⟨v,HK hy hv⟩) (fun i y v h1 h2 h3=>by
   refine aA I1.loc fun m _ hl=>?_;refine aA (hl i y v h1 h2 (.inr (.inl h3))) fun u ru lk=>?_;rcases lk with ⟨lk,_⟩ | ⟨_,c,e1,e2⟩
   ·rw[h3] at lk;cases lk
   ·exact⟨c,u,e1,HK e1 e2,ru⟩)
 refine aN (O b) fun g2 fd hm2 kp2 bd G=>?_;rw[hm] at hm2;cases hm2;have hl:us.length=ps.length:=by rw[←r.length];exact G.len _ _ _ _ sp
 have neF:∀ a,H1 a=none→a≠f:=fun a n z=>by rw[z,hf] at n;cases n
 have dn:∀ a,H1 a=none→del H1 f a=none:=fun a n=>by rw[dU (neF a n)];exact n
 have frB:∀ a∈frs X.stack,b.get? a=none:=fun a ha=>by
  cases eb:b.get? a with
  | none=>rfl
  | some u=>
   have hn:=I1.BA a ha;rcases xB (ofb eb).2 with ⟨u',e⟩ | e | ⟨y,e⟩
   ·have:=(I1.stack.mem ha).1;rw[e] at this;cases this
   ·exact absurd e (neF a hn)
   ·rcases aEZ.mp (I1.IC a ha) with z | z
    ·exact absurd z (I1.cne y a e)
    ·(refine aD (I1.ok.xH.mem z) fun _ eX=>?_;refine aA eX fun u2 e2 _=>?_);have h1:=Heap.lt_size e2;have h2:=I1.ok.cab y a (hfn y) e;exact absurd (aFs h1 h2) (Nat.lt_irrefl _)
 have fun2:∀ (l:List Env),(∀ a∈frs l,a∈frs X.stack)→s1.heap.FunFrames X.base l→s1.heap.FunFrames b l:=by
  intro l
  induction l with
  | nil=>intro _ _;trivial
  | cons env r ih=>
   intro hs hl;(refine aF hl fun hk hE hr'=>?_;refine aN hE fun L o' hf' hn ho hd=>?_);refine⟨hk,⟨L,o',hf',frB L (hs L ?_),ho,hd⟩,ih (fun a ha=>hs a ?_) hr'⟩
   ·unfold frs;rw[List.filterMap_cons,hf'];exact aFh
   ·unfold frs;rw[List.filterMap_cons,hf'];exact aFk _ ha
 have e0:NK X.prog X.w X.K X.mg b X.A X.stack s1 (del H1 f):=by
  refine⟨I1.ok.frames,⟨I1.mod.kin.keeps up,I1.mod.glob.keeps up,?_,I1.mod.nolimit.keeps up⟩,fun a u e=>⟨(ofb e).1,?_⟩,?_,fun2 _ (fun _ h=>h) I1.stack,fun a ha=>dn a (I1.BA a ha),fun a u e=>?_,I1.bare⟩
  ·refine aA I1.mod.blt fun mb h1 h2=>?_;exact⟨mb,h1.keeps up,h2⟩
  ·rcases xB (ofb e).2 with ⟨u',e'⟩ | e' | ⟨y,e'⟩
   ·exact dn a (I1.bs _ _ e').2
   ·rw[e'];exact fN
   ·exact dn a (I1.p8 y a e')
  ·rw[←hb];unfold baseOf;rw[W.hideAll_size];exact aFi _
  ·have na:a≠f:=fun z=>by rw[z,fN] at e;cases e
   rw[dU na] at e;refine(I1.hok a u e).stay (fun d v _ g=>g) (fun d g=>?_) fun d xs g=>?_
   ·rw[dU (fun z=>by rw[z,hf] at g;cases g)];exact g
   ·rw[dU (fun z=>by rw[z,hf] at g;cases g)];exact g
 have bd2:=bd s1 us I1.D3 (by rw[List.append_nil];exact hl);rw[List.append_nil] at bd2;refine wpAny_call (codeAny_mono (G.run X.A X.stack s1 (del H1 f) ⟨us,[]⟩ us vs Q E0 (hr.mono hjk) e0 bd2 r sp) fun rs s' hq=>?_)
 cases rs with
 | error e=>exact hq.elim
 | ok fl=>
  cases fl with
  | next=>exact False.elim hq
  | brk=>exact False.elim hq
  | cont=>exact False.elim hq
  | ret u=>
   refine aI hq fun v H' os bare un hok rv qq=>?_;have un2:Un (frs X.stack) [] H1 H' s1.heap s'.heap:=by
    refine⟨fun a u e n hb hx=>un.keep a u e (dn a n) hb hx,fun a u e n hb hx=>un.slot a u e (dn a n) hb hx,fun a u e n hx=>un.free a u e (dn a n) hx,un.there,fun a xs e=>un.tups a xs ?_,fun a u xs e=>un.FQ a u xs ?_,fun a ps e=>un.E3 a ps ?_⟩
    ·rw[dU (fun z=>by rw[z,hf] at e;cases e)];exact e
    ·rw[dU (fun z=>by rw[z,hf] at e;cases e)];exact e
    ·rw[dU (fun z=>by rw[z,hf] at e;cases e)];exact e
   exact I1.after ⟨v,H',os,bare,un2,hok,rv,qq⟩
def FnB(P:Program)(w:World)(K:W.Frag)(mg:Str→Option Value)(base:Heap)(f:Addr)(ps:List Str)(k:Nat)(sp:Sp):Prop:=
 ∃ fd o,base.get? f=some o∧o.data= .func fd∧Binds K fd ps []∧mU P w K mg base R9 k f fd ps sp
def N5(P:Program)(w:World)(K:W.Frag)(mg:Str→Option Value)(base:Heap)(k:Nat)(tf:TE)(t:TA):TE:=fun σ H Q=>tf σ H fun x H1=>∃ f ps sp,x= .ref f∧FnB P w K mg base f ps k sp∧t σ H1 fun vs H2=>sp vs H2 Q E0
theorem LN{X:Cx}{fe:Expr}{tf:TE}{j k:Nat}{e:Expr}{es:List Expr}{t:TA}{pos:Pos}(hf:PE X fe tf)(hr:f8 k X.A)(hjk:j≤k)(ha:PA X (e::es) t)
  (hc:eval (.Call fe (e::es) [] pos) X.env=(do callWith pos (←eval fe X.env) [] (backTo pos (starEach (e::es) X.env)) (backToKw pos (keywordEach [] X.env))):=by rfl)
  (he:starEach (e::es) X.env=(false,eval e X.env)::starEach es X.env:=by rfl) (hpl:(backTo pos (starEach es X.env)).any (·.1)=false:=by rfl):
  PE X (.Call fe (e::es) [] pos) (N5 X.prog X.w X.K X.mg X.base j tf t):=by
 intro pins s σ H Q I h;refine Call_ (eR (hf pins s σ H _ I h) fun u s1 bO=>aB bO fun x H1 I1 rx cA=>aJ cA fun f ps sp ex O q1=>?_) hc;subst ex;obtain rfl:u=Value.ref f:=rx;refine aN O fun fd o lk hd b G=>?_;have hkp:∀ h:Heap,h.get? f=some o→∃ k,(k=Keeper.frame∨k=Keeper.machine∨k=Keeper.boundFrame)∧W.Looks (model X.prog X.w) h (keeperOf (.ref f)) k:=fun h e=>by
  refine⟨.frame,.inl rfl,(W.Looks.ld (part:=none) e).andThen ?_⟩;rw[hd];exact .now
 have ha':=ha pos pins s1 σ H1 _ I1 q1;rw[he] at ha' ⊢;refine W.callWith_of (P:=fun h=>h.get? f=some o) (by show ((false||(backTo pos (starEach es X.env)).any (·.1))||false)=false;rw[hpl];rfl) hkp (Calls.evalArgs_plain (eR ha' fun us s2 dF=>aB dF fun vs H2 I2 r q=>⟨I2.bk _ _ lk,?_⟩));have hl:us.length=ps.length:=by rw[←r.length];exact G.len _ _ _ _ q
 have b2:=b s2 us I2.D3 (by rw[List.append_nil];exact hl);rw[List.append_nil] at b2;refine wpAny_call (codeAny_mono (G.run X.A X.stack s2 H2 ⟨us,[]⟩ us vs Q E0 (hr.mono hjk) I2.env0 b2 r q) fun rs s' hq=>?_)
 cases rs with
 | error e=>exact hq.elim
 | ok fl=>
  cases fl with
  | ret u=>exact I2.after hq
  | next=>exact False.elim hq
  | brk=>exact False.elim hq
  | cont=>exact False.elim hq
def NL(K:W.Frag)(mg:Str→Option Value)(x:Str)(st:Stmt)(ps:List Str)(T:Addr):Prop:=∃ f fd c,mg x=some (.ref f)∧Fun K x x st f fd∧Binds K fd ps []∧fd.code= .ref c∧W.codeHdIn K c T=true
section
variable{P:Program}{w:World}{K:W.Frag}{mg:Str→Option Value}{base:Heap}
theorem NL.own{x:Str}{st:Stmt}{N ps:List Str}{k:Nat}{sp:Sp}{T:Addr}(D:NL K mg x st ps T)(S:bJ N ps (bC st))(len:∀ vs H Q E,sp vs H Q E→vs.length=ps.length)
  (hbody:∀ (f c:Addr) (A:Around) (outer:List Env) (s:Shared) (H:Hp) (vs:List V) (Q:VK) (E:XK),W.codeHdIn K c T=true→f8 k (A.deeper (envOfC x (bC st) s.heap.objs.size f (.ref c)))→sp vs H Q E →
   ∃ t,MZ (A4 R9 P w K mg base N x (bC st) f (.ref c) A outer s H E).X0 (cX st) t∧t {nx:=fun _ H'=>Q .non H',rt:=Q} (L2.start N vs) H):Own P w K mg base x ps (k+1) sp:=by
 refine aS D fun f fd c hm F b hc hT=>?_;refine⟨f,fd,hm,F.kp,b,?_⟩;(refine aE F.ex fun oc od kV bO=>?_;refine aE bO fun doc pm an cA=>?_;refine aJ cA fun cdv ct osl dF lk hcd=>?_;subst dF);obtain rfl:cdv= .ref c:=hc;refine aAw lk hcd S len fun A outer s H vs Q E hr hsp=>?_;refine aA (hbody f c A outer s H vs Q E hT hr hsp) fun t h q=>?_;exact⟨t,h.X0,q⟩
theorem Def.aDO{x:Str}{st:Stmt}{N ps:List Str}{k:Nat}{sp:Sp}(D:Def K mg x st ps)(hB:K.In base)(S:bJ N ps (bC st))(len:∀ vs H Q E,sp vs H Q E→vs.length=ps.length)
  (hbody:∀ (f:Addr) (cdv:Value) (A:Around) (outer:List Env) (s:Shared) (H:Hp) (vs:List V) (Q:VK) (E:XK),f8 k (A.deeper (envOfC x (bC st) s.heap.objs.size f cdv))→sp vs H Q E →
   ∃ t,MZ (A4 R9 P w K mg base N x (bC st) f cdv A outer s H E).X0 (cX st) t∧t {nx:=fun _ H'=>Q .non H',rt:=Q} (L2.start N vs) H):∃ f,mg x=some (.ref f)∧FnB P w K mg base f ps (k+1) sp:=by
 refine aB D fun f fd hm F b=>?_;(refine aE (id F.ex) fun oc od kV bO=>?_;refine aE bO fun doc pm an cA=>?_;refine aJ cA fun cdv ct osl e lk hcd=>?_);exact⟨f,hm,fd,_,hB _ _ lk,rfl,b,F.ok S len (hbody f)⟩
end
def yD(ts:List Addr)(H:Hp):Hp:=fun b=>if b∈ts then some (.qA #[]) else H b
theorem QM{ts:List Addr}{H:Hp}{b:Addr}(h:b∈ts):yD ts H b=some (.qA #[]):=by unfold yD;rw[if_pos h]
theorem oI{ts:List Addr}{H:Hp}{b:Addr}(h:b∉ts):yD ts H b=H b:=by unfold yD;rw[if_neg h]
structure XS(ts:List Addr)(H:Hp):Prop where
 tab:∀ b∈ts,H b=some (.qA #[])
 rest:∀ b,b∉ts→H b=none∨∃ o u,H b=some (.HD o u)
theorem YI{K:W.Frag}{H H':Hp}(sm:∀ b o,H b=some o→H' b=some o){a:Addr}{xs:List V}(h:cT K H a xs):cT K H' a xs:=by
 rcases h with (h | ⟨o,h⟩) | h
 ·exact .inl (.inl (sm _ _ h))
 ·exact .inl (.inr ⟨o,sm _ _ h⟩)
 ·exact .inr h
theorem VA{K:W.Frag}{H H':Hp}(sm:∀ b o,H b=some o→H' b=some o){a:Addr}{xs:List V}(h:gF K H a xs):gF K H' a xs:=by
 rcases h with (h | ⟨o,h⟩) | h
 ·exact .inl (.inl (sm _ _ h))
 ·exact .inl (.inr ⟨o,sm _ _ h⟩)
 ·exact .inr h
mutual
theorem Z4{K:W.Frag}{H H':Hp}(sm:∀ b o,H b=some o→H' b=some o):∀ (d:WData) (v:V),Dw K H v d→Dw K H' v d
 | _,_,.non=> .non
 | _,_,.bl b=> .bl b
 | _,_,.int i=> .int i
 | _,_,.str x=> .str x
 | _,_,.T9 b=> .T9 b
 | .list ds,_,.lst h a=> .lst (YI sm h) (pS sm ds _ a)
 | .tuple ds,_,.tup h a=> .tup (VA sm h) (pS sm ds _ a)
theorem pS{K:W.Frag}{H H':Hp}(sm:∀ b o,H b=some o→H' b=some o):∀ (ds:List WData) (vs:List V),pD K H vs ds→pD K H' vs ds
 | [],_,.nil=> .nil
 | d::ds,_,.cons h t=> .cons (Z4 sm d _ h) (pS sm ds _ t)
end
theorem OA{P:Program}{w:World}{K:W.Frag}{mg mb:Str→Option Value}{CX:QI}{k:Nat}{fa:Addr}{ps:List Str}{sp:Sp}{s₁:Shared}{vals:List Value}{ds:List WData}{R:W.WRecords}{cl:Str→Option Addr}{d0:WData}{ts:List Addr}
  (KX:K.In s₁.heap) (hns:s₁.heap.Ns mainGlobals mg) (hb:s₁.heap.Ns builtinsNs mb) (hbb:∀ x:Str,x≠"__name__"→mb x=bootBuiltins x) (hlim:s₁.heap.NoLimit) (hg:s₁.gens=#[])
  (hwl:WellAll w.params s₁.heap vals ds) (hpl:AU ds=true) (hwt:∀ d∈ds,d.weight≤1048576) (hr:f8 k callerA)
  (hbm:FY s₁.heap mg) (htc:∀ T∈ts,∃ c,W.codeHdIn K c T=true) (htk:∀ T∈ts,K.lookup T=none) (ZQ:∀ T∈ts,s₁.heap.get? T=some (W.tabObj #[]))
  (F:∀ base:Heap,K.In base→base.Ns mainGlobals mg→FY base mg→∃ fd,Binds K fd ps []∧mU P w K mg base CX k fa fd ps sp) (hlen:ds.length=ps.length)
  (hsp:∀ (H:Hp) (xs:List V),XS ts H→pD K H xs ds→sp xs H (fun v H'=>Dw K H' v d0) fun _ _ _=>False)
  (hCX:∀ H e s',CX [] H s₁ (fun _ _ _=>False) e s'→False):
  codeAny (model P w) callerA (.call (.ref fa) ⟨vals,[]⟩) (fun r s'=>∃ u as,r= .ok (.ret u)∧ReadsW R cl s'.heap u d0 as∧OldK s₁.heap s'.heap∧s'.os=s₁.os∧AllBare s'.gens) s₁:=by
 refine aA (xR ds vals hwl hpl hwt) fun A ho ar=>?_;have shape:∀ b u,mP K s₁.heap A b=some u→b∉ts:=fun b u q hb'=>by
  (refine aD (tD ar q) fun _ bO=>?_;refine aC bO fun vs _ _ cA=>?_;obtain⟨e,_⟩ | ⟨e,_⟩:=cA)
  ·rw[ZQ b hb'] at e;cases e
  ·rw[ZQ b hb'] at e;cases e
 have sm:∀ b o,mP K s₁.heap A b=some o→yD ts (mP K s₁.heap A) b=some o:=fun b o e=>by
  rw[oI (shape b o e)];exact e
 have hO:XS ts (yD ts (mP K s₁.heap A)):=⟨fun b hb'=>QM hb',fun b hb'=>by rw[oI hb'];exact UB ar b⟩;have hok:xY P w (yD ts (mP K s₁.heap A)) s₁.heap:=fun b u q=>by
  by_cases c:b∈ts
  ·rw[QM c] at q;cases q;exact ZQ b c
  ·rw[oI c] at q;(refine aD (tD ar q) fun _ dF=>?_;refine aC dF fun vs h1 h2 eX=>?_;obtain⟨e,rfl⟩ | ⟨e,rfl⟩:=eX)
   ·exact⟨e,by rw[aFd];exact h1,vs,_,oH h2,e⟩
   ·exact⟨e,by rw[aFd];exact h1,vs,oH h2,_,e,rfl,_,rfl⟩
 have hS:=pS sm _ _ (JQ KX ar ds vals hwl hpl ho);have hV:=oH ho;have hK:∀ b u,yD ts (mP K s₁.heap A) b=some u→K.lookup b=none:=fun b u q=>by
  by_cases c:b∈ts
  ·exact htk b c
  ·rw[oI c] at q;exact(tD ar q).1
 have X1:∀ {b:Addr} {o:Obj} {es:Array DictEntry} {ep:Nat},s₁.heap.get? b=some o→o.data= .dict es ep→yD ts (mP K s₁.heap A) b=none:=fun {b o es ep} e d=>by
  cases q:yD ts (mP K s₁.heap A) b with
  | none=>rfl
  | some u=>
   by_cases c:b∈ts
   ·rw[ZQ b c] at e;cases e;cases d
   ·rw[oI c] at q;(refine aD (tD ar q) fun _ hE=>?_;refine aC hE fun vs _ _ p9=>?_;obtain⟨e2,_⟩ | ⟨e2,_⟩:=p9)
    ·rw[e2] at e;cases e;have d':Data.seq vs.toArray _=Data.dict es ep:=d;cases d'
    ·rw[e2] at e;cases e;have d':Data.seq vs.toArray _=Data.dict es ep:=d;cases d'
 have noM:∀ {b:Addr} {o:Obj},s₁.heap.get? b=some o→o.data= .plain→yD ts (mP K s₁.heap A) b=none:=fun {b o} e d=>by
  cases q:yD ts (mP K s₁.heap A) b with
  | none=>rfl
  | some u=>
   by_cases c:b∈ts
   ·rw[ZQ b c] at e;cases e;cases d
   ·rw[oI c] at q;(refine aD (tD ar q) fun _ AS=>?_;refine aC AS fun vs _ _ KJ=>?_;obtain⟨e2,_⟩ | ⟨e2,_⟩:=KJ)
    ·rw[e2] at e;cases e;cases d
    ·rw[e2] at e;cases e;cases d
 generalize yD ts (mP K s₁.heap A)=H at hO hok hS hK X1 noM;have JY:∀ {b:Addr} {o:Obj},s₁.heap.get? b=some o→H b=none→(FP s₁.heap H).get? b=some o:=fun e n=>WU e n;have nsK:∀ {b:Addr} {m:Str→Option Value},s₁.heap.Ns b m→(FP s₁.heap H).Ns b m:=fun {b m} NO=>aJ NO fun o es ep e d r=>⟨o,es,ep,JY e (X1 e d),d,r⟩;have nK:∀ b o,K.lookup b=some o→H b=none:=fun b o e=>by
  cases q:H b with
  | none=>rfl
  | some u=>
   rw[hK b u q] at e;cases e
 have hKb:K.In (FP s₁.heap H):=fun b o e=>JY (KX b o e) (nK b o e);have hM:Mod K mg (FP s₁.heap H):=⟨hKb,nsK hns,⟨mb,nsK hb,hbb⟩,let ⟨mc,h1,h2⟩:=hlim;⟨mc,nsK h1,h2⟩⟩;have e0:NK P w K mg (FP s₁.heap H) callerA [] s₁ H:=⟨rfl,hM,fun b o e=>Y5 e,Nat.le_of_eq (TX _ _),trivial,fun b hb=>absurd (show b∈([]:List Addr) from hb) (by simp),hok,.of_eq hg⟩;have hl:vals.length=ps.length:=by rw[mX hwl];exact hlen
 have hBB:FY (FP s₁.heap H) mg:=let ⟨bm,ob,b1,b2,b3,b4,b5,b6⟩:=hbm;⟨bm,ob,b1,b2,JY b3 (noM b3 b6),b4,b5,b6⟩;refine aA (F _ hKb (nsK hns) hBB) fun fd hbind hF=>?_;have hb2:=hbind s₁ vals KX (by rw[List.append_nil];exact hl);rw[List.append_nil] at hb2;refine codeAny_mono (hF.run callerA [] s₁ H ⟨vals,[]⟩ vals (vals.map toV) _ _ hr e0 hb2 hV (hsp H _ hO hS)) fun r s' x=>?_
 cases r with
 | error e=>exact(hCX H e s' x).elim
 | ok fl=>
  cases fl with
  | next=>exact False.elim x
  | brk=>exact False.elim x
  | cont=>exact False.elim x
  | ret u=>
   refine aI x fun v H' os bare un hok' r' q=>?_;have kept:∀ b o,b∉ts→s₁.heap.get? b=some o→s'.heap.get? b=some o:=fun b o nb e=>by
    cases q2:H b with
    | none=>exact un.keep b o e q2 (by intro z;exact absurd (show b∈([]:List Addr) from z) (by simp)) (by simp)
    | some u2=>
     rcases hO.rest b nb with z | ⟨ob,u3,z⟩
     ·rw[q2] at z;cases z
     ·have z2:=un.FQ b ob _ z;obtain⟨e1,_⟩:=hok b _ z;obtain⟨e2,_⟩:=hok' b _ z2;rw[e] at e1;cases e1;exact e2
   have tabs:∀ T∈ts,∃ more,s'.heap.get? T=some (W.tabObj (#[]++more)):=fun T hT=>by
    obtain⟨more,hm⟩:=un.E3 T #[] (hO.tab T hT);exact⟨more,hok' T _ hm⟩
   have KX':K.In s'.heap:=fun b o e=>kept b o (fun z=>by rw[htk b z] at e;cases e) (KX b o e);obtain⟨as,hrd⟩:=Dw.reads (R:=R) (cl:=cl) hok' KX' d0 v u q r';refine⟨u,as,rfl,hrd,⟨fun b o e=>?_,fun b o e=>?_⟩,os,bare⟩
   ·by_cases c:b∈ts
    ·obtain⟨more,hm⟩:=tabs b c;obtain⟨cc,hcc⟩:=htc b c;have ht:=(W.codeHd_of_K KX hcc).tab (ZQ b c);rw[ZQ b c] at e;cases e;exact .inr (.inl ⟨ht.isCodeTable,rfl,#[],more,rfl,hm⟩)
    ·exact .inl (kept b o c e)
   ·by_cases c:b∈ts
    ·obtain⟨more,hm⟩:=tabs b c;exact⟨_,hm⟩
    ·exact⟨o,kept b o c e⟩
theorem NS{r:OpenSpec}{k:Nat}{q:Program}{loose:List Str}{XP:(Str→Option Value)→Heap→Prop}{YP:World→Heap→Prop}{d:DefRec}{K:Params→W.Frag}{CX:QI}{ps:List Str}{sp:W.Frag→Sp}{ts:List Addr}
  (aCC:r.wellSaid=true) (hdf:d.params.defaults=[]) (hlen:r.args.length=ps.length) (hr:f8 k callerA)
  (hY:∀ (w:World) (h:Heap),YP w h→(K w.params).In h∧∀ T∈ts,h.get? T=some (W.tabObj #[]))
  (htc:∀ (w:World),∀ T∈ts,∃ c,W.codeHdIn (K w.params) c T=true) (htk:∀ (w:World),∀ T∈ts,(K w.params).lookup T=none)
  (F:∀ (w:World) (mg:Str→Option Value) (fa:Addr) (h:Heap),YP w h→(K w.params).In h→h.Ns mainGlobals mg→mg d.name=some (.ref fa) →
   ∀ base:Heap,(K w.params).In base→base.Ns mainGlobals mg→FY base mg→∃ fd:FuncData,Binds (K w.params) fd ps []∧mU r.prog w (K w.params) mg base CX k fa fd ps (sp (K w.params)))
  (hsp:∀ (K:W.Frag) (H:Hp) (xs:List V) (a:Codec.denoteAll r.args),XS ts H→Codec.withinAll r.args a=true→Codec.app r.args r.asked a=true→pD K H xs (Codec.encAll r.args a) →
   sp K xs H (fun v H'=>Dw K H' v (r.ret.enc (Codec.app r.args r.f a))) fun _ _ _=>False)
  (hCX:∀ (H:Hp) (s:Shared) (e:Value) (s':Shared),CX [] H s (fun _ _ _=>False) e s'→False):
  W.WalkOS q loose XP YP r d [] (fun f vs=>PySem.call f vs):=by
 intro w s_0 s₁ mg mb G Y fa o pm cd doc dV kV ho hd hcd hD hmg hg args vals as hpre hlay hrd hwl hlo;refine aA (W.os_pre_some hpre) fun a e1 e2=>?_;obtain⟨e3,hwi⟩:=Codec.encAll_of_decAll r.args args a e1;subst e3;obtain⟨KX,ZQ⟩:=hY w _ Y;have hF:=F w mg fa _ Y KX G.T.g hmg;refine W.enter_call (codeAny_mono (OA (R:=[]) (cl:=classAt s_0.heap) (d0:=r.ret.enc (Codec.app r.args r.f a)) (ts:=ts) KX G.T.g G.T.b G.T.builtins G.T.nolimit hg hwl (GR _ _) (DX hlay) hr G.T.bmain (htc w) (htk w) ZQ hF (by rw[EG];exact hlen)
  (fun H xs hO hS=>hsp (K w.params) H xs a hO hwi e2 hS) fun H e s'=>hCX H s₁ e s') fun r' s' hq=>?_)
 (refine aT hq fun u as' bO h1 h2 h3 h4=>?_;subst bO);exact⟨.inl ⟨u,_,as',rfl,fun _=>rfl,h1,(OpenSpec.post_iff aCC hwi _ _).mpr rfl,fun z=>Bool.noConfusion (show false=true from z)⟩,h2,h3,h4⟩
theorem GS{X:Cx}{x:Str}{a:Addr}{pos:Pos}(hg:Gl X x)(hm:X.mg x=some (.ref a))(hd:(x==("__debug__":Str))=false:=by decide):PE X (.Name x pos) (tC (.ref a)):=Q4 hg hm rfl hd
def tK(K:W.Frag)(f:Str)(x:V)(H:Hp)(Q:VK):Prop:=∃ a C dx fs v,x= .ref a∧H a=some (.ins C dx fs)∧Cls K C∧cS K C f∧fs.lookup f=some v∧Q v H
theorem HZ(K:W.Frag)(ta:TE)(f:Str)(σ:L2.St)(H:Hp)(Q:VK):U5 K ta f σ H Q=ta σ H fun x H1=>tK K f x H1 Q:=rfl
def Mth(C:Addr)(m:Str)(x:V)(H:Hp)(k:Prop):Prop:=∃ a dx fs,x= .ref a∧H a=some (.ins C dx fs)∧fs.lookup m=none∧k
theorem B0(C:Addr)(m:Str)(sp:Sp)(xK:List V)(E:XK)(ta:TE)(t:TA)(σ:L2.St)(H:Hp)(Q:VK):zQ C m sp xK E ta t σ H Q=ta σ H fun x H1=>Mth C m x H1 (t σ H1 fun vs H2=>sp (x::(vs++xK)) H2 Q E):=rfl
theorem cQ{K:W.Frag}{f:Str}{p C dx:Addr}{H:Hp}{fs:List (Str×V)}{v:V}(hp:H p=some (.ins C dx fs))(c:Cls K C)(n:cS K C f)(l:fs.lookup f=some v)(Q:VK):tK K f (.ref p) H Q↔Q v H:=by
 constructor
 ·rintro⟨a,C',P0,fs',v',e,h1,_,_,h2,q⟩;cases e;rw[hp] at h1;cases h1;rw[l] at h2;cases h2;exact q
 ·exact fun q=>⟨p,C,dx,fs,v,rfl,hp,c,n,l,q⟩
theorem iK{C p dx:Addr}{m:Str}{H:Hp}{fs:List (Str×V)}(hp:H p=some (.ins C dx fs))(l:fs.lookup m=none)(k:Prop):Mth C m (.ref p) H k↔k:=by
 constructor
 ·rintro⟨_,_,_,_,_,_,h⟩;exact h
 ·exact fun h=>⟨p,dx,fs,rfl,hp,l,h⟩
local macro_rules | `(tactic| walk_at"0")=>sm false ([]) (P2++RX++mV++mL++lK++eS++eM)
local macro_rules | `(tactic| walk_at"2")=>sm false (ZZ) (P2++RX++mV++mL++lK++eS++eM)
local macro_rules | `(tactic| walk_at"1")=>sm true (ZZ) (P2++RX++mV++mL++lK++eS++eM)
abbrev zW:Stmt:=top 41
theorem II:bJ ["net","place"] ["net","place"] (bC zW):=bV (by kernel_rfl)
abbrev wG:Stmt:=inClass (top 42) 1
theorem E6:bJ ["self"] ["self"] (bC wG):=bV (by kernel_rfl)
abbrev AB:Stmt:=inClass (top 42) 2
theorem IK:bJ ["self","offset"] ["self","offset"] (bC AB):=bV (by kernel_rfl)
abbrev p0:Stmt:=inClass (top 42) 3
theorem oN:bJ ["self","h"] ["self"] (bC p0):=bV (by kernel_rfl)
abbrev zY:Stmt:=top 46
theorem lF:bJ ["walk","layer","end","m"] ["walk"] (bC zY):=bV (by kernel_rfl)
structure WV where
 (net below aside loops layers:Addr) (place win w times dn need:Nat) (ended:Bool)
def WV.fs(v:WV):List (Str×V):=[("net",.ref v.net),("below",.ref v.below),("place",.int v.place),("width_in",.int v.win),("width",.int v.w),("aside",.ref v.aside),("loops",.ref v.loops),("times",.int v.times),("layers",.ref v.layers),("done",.int v.dn),("need",.int v.need),("ended",.bl v.ended)]
theorem WV.WI(v:WV):v.fs.lookup ("net":Str)=some (.ref v.net):=by kernel_rfl
theorem WV.ZL(v:WV):v.fs.lookup ("below":Str)=some (.ref v.below):=by kernel_rfl
theorem WV.xA(v:WV):v.fs.lookup ("place":Str)=some (.int v.place):=by kernel_rfl
theorem WV.aCB(v:WV):v.fs.lookup ("width_in":Str)=some (.int v.win):=by kernel_rfl
theorem WV.l_w(v:WV):v.fs.lookup ("width":Str)=some (.int v.w):=by kernel_rfl
theorem WV.ZM(v:WV):v.fs.lookup ("aside":Str)=some (.ref v.aside):=by kernel_rfl
theorem WV.ZJ(v:WV):v.fs.lookup ("loops":Str)=some (.ref v.loops):=by kernel_rfl
theorem WV.RJ(v:WV):v.fs.lookup ("times":Str)=some (.int v.times):=by kernel_rfl
theorem WV.WJ(v:WV):v.fs.lookup ("layers":Str)=some (.ref v.layers):=by kernel_rfl
theorem WV.WK(v:WV):v.fs.lookup ("done":Str)=some (.int v.dn):=by kernel_rfl
theorem WV.aBr(v:WV):v.fs.lookup ("need":Str)=some (.int v.need):=by kernel_rfl
theorem WV.ZK(v:WV):v.fs.lookup ("ended":Str)=some (.bl v.ended):=by kernel_rfl
theorem WV.JH(v:WV):v.fs.lookup ("layer":Str)=none:=by kernel_rfl
theorem WV.PF(v:WV):v.fs.lookup ("told":Str)=none:=by kernel_rfl
theorem WV.PD(v:WV):v.fs.lookup ("used_net":Str)=none:=by kernel_rfl
structure hU(K:W.Frag)(C:Addr):Prop where
 cl:Cls K C
 net:cS K C "net"
 below:cS K C "below"
 place:cS K C "place"
 width_in:cS K C "width_in"
 width:cS K C "width"
 aside:cS K C "aside"
 loops:cS K C "loops"
 times:cS K C "times"
 layers:cS K C "layers"
 done:cS K C "done"
 need:cS K C "need"
 ended:cS K C "ended"
def BO:List (Int×V):=[(1,.int 2),(7,.int 2),(8,.int 2),(9,.int 4),(10,.int 4),(14,.int 1)]
structure sE(K:W.Frag)(mg:Str→Option Value):Prop extends J1 K mg where
 HEAD:GI mg "HEAD" 6
 MOST_BYTES:GI mg "MOST_BYTES" 16384
 MOST_ASIDE:GI mg "MOST_ASIDE" 16
 MOST_TIMES:GI mg "MOST_TIMES" 256
 MOST_DONE:GI mg "MOST_DONE" 4096
 LAST_LAYER:GI mg "LAST_LAYER" 15
 BEHIND:∃ c,mg "BEHIND"=some (.ref c)∧KDI K c BO
 MARK:∃ c,mg "MARK"=some (.ref c)∧∀ H,gF K H c [.int 66,.int 82,.int 78,.int 49]
 sum:mg "sum"=none
 max:mg "max"=none
 list:mg "list"=none
 tuple:mg "tuple"=none
def hW(H:Hp):List V→List (Nat×Nat×List Nat)→Prop
 | [],[]=>True
 | x::r,e::es=>(∃ t l,x= .ref t∧H t=some (.tup [.int (BM.L6 es:Nat),.int e.2.1,.ref l])∧H l=some (.lst (nums e.2.2.reverse)))∧hW H r es
 | _,_=>False
theorem hW.same{H H':Hp}(sm:Same H H'):∀ {xs:List V} {es:List (Nat×Nat×List Nat)},hW H xs es→hW H' xs es
 | [],[],_=>trivial
 | x::r,e::es,⟨⟨t,l,h1,h2,h3⟩,h⟩=>⟨⟨t,l,h1,sm _ _ h2,sm _ _ h3⟩,hW.same sm h⟩
 | [],_::_,h=>h.elim
 | _::_,[],h=>h.elim
theorem hW.len{H:Hp}:∀ {xs:List V} {es:List (Nat×Nat×List Nat)},hW H xs es→xs.length=es.length
 | [],[],_=>rfl
 | x::r,e::es,⟨_,h⟩=>by rw[List.length_cons,List.length_cons,hW.len h]
 | [],_::_,h=>h.elim
 | _::_,[],h=>h.elim
structure lM(C:Addr)(H:Hp)(p:Addr)(v:WV)(b:List Nat)(bv:List V)(z:Br.Spot):Prop where
 at_:∃ dx,H p=some (.ins C dx v.fs)
 net:H v.net=some (.lst (nums b))
 Z8:H v.below=some (.lst bv)
 zG:H v.aside=some (.lst (nums z.aside.reverse))
 lps:∃ ls,H v.loops=some (.lst ls.reverse)∧hW H ls z.loops
 w:v.w=z.w
 times:v.times=z.often
 bytes:∀ x∈b,x<256
 len:b.length≤30000
 spot:BM.sG z
 FS:z.aside.length≤16
structure aCV(K:W.Frag)(C:Addr)(H:Hp)(p:Addr)(v:WV):Prop where
 net:∀ Q,tK K "net" (.ref p) H Q↔Q (.ref v.net) H
 below:∀ Q,tK K "below" (.ref p) H Q↔Q (.ref v.below) H
 place:∀ Q,tK K "place" (.ref p) H Q↔Q (.int v.place) H
 win:∀ Q,tK K "width_in" (.ref p) H Q↔Q (.int v.win) H
 w:∀ Q,tK K "width" (.ref p) H Q↔Q (.int v.w) H
 aside:∀ Q,tK K "aside" (.ref p) H Q↔Q (.ref v.aside) H
 loops:∀ Q,tK K "loops" (.ref p) H Q↔Q (.ref v.loops) H
 times:∀ Q,tK K "times" (.ref p) H Q↔Q (.int v.times) H
 layers:∀ Q,tK K "layers" (.ref p) H Q↔Q (.ref v.layers) H
 dn:∀ Q,tK K "done" (.ref p) H Q↔Q (.int v.dn) H
 need:∀ Q,tK K "need" (.ref p) H Q↔Q (.int v.need) H
 ended:∀ Q,tK K "ended" (.ref p) H Q↔Q (.bl v.ended) H
 JH:∀ k,Mth C "layer" (.ref p) H k↔k
 PF:∀ k,Mth C "told" (.ref p) H k↔k
 PD:∀ k,Mth C "used_net" (.ref p) H k↔k
theorem kN{K:W.Frag}{C dx p:Addr}{H:Hp}{v:WV}(hp:H p=some (.ins C dx v.fs))(T:hU K C):aCV K C H p v:=
 ⟨cQ hp T.cl T.net v.WI,cQ hp T.cl T.below v.ZL,cQ hp T.cl T.place v.xA,cQ hp T.cl T.width_in v.aCB,cQ hp T.cl T.width v.l_w,cQ hp T.cl T.aside v.ZM,cQ hp T.cl T.loops v.ZJ,cQ hp T.cl T.times v.RJ,
  cQ hp T.cl T.layers v.WJ,cQ hp T.cl T.done v.WK,cQ hp T.cl T.need v.aBr,cQ hp T.cl T.ended v.ZK,iK hp v.JH,iK hp v.PF,iK hp v.PD⟩
theorem lM.rd{K:W.Frag}{C:Addr}{H:Hp}{p:Addr}{v:WV}{b:List Nat}{bv:List V}{z:Br.Spot}(W:lM C H p v b bv z)(T:hU K C):aCV K C H p v:=by
 obtain⟨dx,hp⟩:=W.at_;exact kN hp T
theorem lM.same{C:Addr}{H H':Hp}{p:Addr}{v:WV}{b:List Nat}{bv:List V}{z:Br.Spot}(W:lM C H p v b bv z)(sm:Same H H'):lM C H' p v b bv z:=by
 obtain⟨⟨dx,h⟩,h1,h2,h3,⟨ls,h4,h5⟩,r1,r2,r3,r4,r5,r6⟩:=W;exact⟨⟨dx,sm _ _ h⟩,sm _ _ h1,sm _ _ h2,sm _ _ h3,⟨ls,sm _ _ h4,h5.same sm⟩,r1,r2,r3,r4,r5,r6⟩
inductive lD(vs:List V)(H:Hp)(Q:VK)(E:XK):Prop
 | mk (a:Addr) (b:List Nat) (i:Nat) (_:vs=[.ref a,.int i]) (_:H a=some (.lst (nums b))) (_:i+1<b.length) (_:(∀ x∈b,x<256)) (_:Q (.int (Br.le (BM.bytesOf b) i 2:Nat)) H):lD vs H Q E
inductive fF(C:Addr)(vs:List V)(H:Hp)(Q:VK)(E:XK):Prop
 | mk (p:Addr) (v:WV) (b:List Nat) (bv:List V) (z:Br.Spot) (_:vs=[.ref p]) (_:lM C H p v b bv z) (_:v.place<b.length) (_:Q (.int (Br.kindAt (BM.bytesOf b) v.place:Nat)) H):fF C vs H Q E
inductive j6(C:Addr)(vs:List V)(H:Hp)(Q:VK)(E:XK):Prop
 | mk (p:Addr) (v:WV) (b:List Nat) (bv:List V) (z:Br.Spot) (o:Nat) (_:vs=[.ref p,.int o]) (_:lM C H p v b bv z) (_:v.place+o+1<b.length) (_:Q (.int (Br.le (BM.bytesOf b) (v.place+o) 2:Nat)) H):j6 C vs H Q E
inductive kO(C:Addr)(vs:List V)(H:Hp)(Q:VK)(E:XK):Prop
 | mk (p:Addr) (v:WV) (b:List Nat) (bv:List V) (z:Br.Spot) (_:vs=[.ref p]) (_:lM C H p v b bv z) (_:v.place+2<b.length) (_:Q (bv.getD (Br.le (BM.bytesOf b) (v.place+1) 2) .non) H):kO C vs H Q E
inductive lE(C:Addr)(vs:List V)(H:Hp)(Q:VK)(E:XK):Prop
 | mk (p:Addr) (v:WV) (b:List Nat) (bv:List V) (z:Br.Spot) (_:vs=[.ref p]) (_:lM C H p v b bv z) (_:v.place<b.length) (_:Q (.int (v.place+1+Br.behind (BM.bytesOf b) z.w v.place:Nat)) H):lE C vs H Q E
def sD(b:List Nat)(z:Br.Spot)(p:Nat):Prop:=p<b.length∧p+1+Br.behind (BM.bytesOf b) z.w p≤b.length
inductive gS(C:Addr)(vs:List V)(H:Hp)(Q:VK)(E:XK):Prop
 | mk (p:Addr) (v:WV) (b:List Nat) (bv:List V) (z:Br.Spot) (_:vs=[.ref p]) (_:lM C H p v b bv z) (_:sD b z v.place) (_:(Br.kindAt (BM.bytesOf b) v.place=11∨Br.kindAt (BM.bytesOf b) v.place=12→z.aside≠[])) (_:Q (.int ((z.next (Br.layerOf (BM.bytesOf b) z.w v.place)).w:Nat)) H):gS C vs H Q E
section
variable{P:Program}{w:World}{K:W.Frag}{mg:Str→Option Value}{base:Heap}{C:Addr}
theorem IS(D:Def K mg "number_at" zW ["net","place"]):Own P w K mg base "number_at" ["net","place"] 1 lD:=by
 refine D.own II (fun vs H Q E h=>?_) (fun f cdv A outer s H vs Q E hr h=>?_)
 ·obtain⟨a,b,i,rfl,_⟩:=h;rfl
 ·obtain⟨a,b,i,rfl,ha,hi,hb,q⟩:=h;refine⟨_,(bA (bI (bH bX (cC bZ (pv 0) (pv 1) (fun _ _=>rfl)) (bH eC a8 (cC bZ (pv 0) (bH bX (pv 1) a8) (fun _ _=>rfl)))))),?_⟩;walk_at"0";have sq:cT K H a (nums b):=cT.of ha;refine⟨_,sq,_,cW (i:=i) (by lia) rfl,_,sq,_,cW (i:=i+1) (by lia) (by lia),_,rfl,.inl ⟨by decide,by decide⟩,_,rfl,?_⟩;rw[BM.aBq hb (by lia)] at q;rw[show ((b.getD i 0:Nat):Int)+256*((b.getD (i+1) 0:Nat):Int)=((b.getD i 0+256*b.getD (i+1) 0:Nat):Int) from by lia];exact q
theorem FJ(D:pV K C "layer" "Walk.layer" wG ["self"])(T:hU K C):cV P w K mg base C "layer" ["self"] 1 (fF C):=by
 refine D.own T.cl E6 (fun vs H Q E h=>?_) (fun f cdv A outer s H vs Q E hr h=>?_)
 ·obtain⟨p,v,b,bv,z,rfl,_⟩:=h;rfl
 ·obtain⟨p,v,b,bv,z,rfl,W,hi,q⟩:=h;have F:=W.rd T;refine⟨_,(bA (bI (cC bZ (bB (pv 0) rfl) (bB (pv 0) rfl) (fun _ _=>rfl)))),?_⟩;walk_at"2";refine⟨_,cT.of W.net,_,cW (i:=v.place) hi rfl,?_⟩;rw[BM.kind_eq W.bytes hi] at q;exact q
theorem JC(D:pV K C "told" "Walk.told" AB ["self","offset"])(T:hU K C)(i7:Own P w K mg base "number_at" ["net","place"] 1 lD):cV P w K mg base C "told" ["self","offset"] 2 (j6 C):=by
 refine D.own T.cl IK (fun vs H Q E h=>?_) (fun f cdv A outer s H vs Q E hr h=>?_)
 ·obtain⟨p,v,b,bv,z,o,rfl,_⟩:=h;rfl
 ·obtain⟨p,v,b,bv,z,o,rfl,W,hi,q⟩:=h;have F:=W.rd T;refine⟨_,(bA (bI (bN i7 hr (by decide) rfl (aY (bB (pv 0) rfl) (aY (bH bX (bB (pv 0) rfl) (pv 1)) a6))))),?_⟩;walk_at"2";exact⟨v.net,b,v.place+o,by rw[Int.natCast_add],W.net,hi,W.bytes,q⟩
theorem yU(D:pV K C "used_net" "Walk.used_net" p0 ["self"])(T:hU K C)(T0:sE K mg)(dX:cV P w K mg base C "told" ["self","offset"] 2 (j6 C)):cV P w K mg base C "used_net" ["self"] 3 (kO C):=by
 refine D.own T.cl oN (fun vs H Q E h=>?_) (fun f cdv A outer s H vs Q E hr h=>?_)
 ·obtain⟨p,v,b,bv,z,rfl,_⟩:=h;rfl
 ·obtain⟨p,v,b,bv,z,rfl,W,hi,q⟩:=h;have F:=W.rd T;have T:=T0;refine⟨_,(aZ (bK (i:=1) oN.nd rfl (Or.inl rfl) (oY dX hr (by decide) (pv 0) (aY a8 a6)))
   (bA (bI (iE (bU (wM (pv 1) (bY bQ (by rfl) T.len PySem.boot_len (aY (bB (pv 0) rfl) a6)))) (cC bZ (bB (pv 0) rfl) (pv 1) (fun _ _=>rfl)) n9)))),?_⟩
  walk_at"1";refine⟨p,v,b,bv,z,1,rfl,W,by lia,?_⟩;generalize Br.le (BM.bytesOf b) (v.place+1) 2=h at q ⊢;walk_at"1";refine⟨_,.inl (cT.of W.Z8),cZ (fun c=>?_) (fun c=>?_)⟩
  ·have hh:h<bv.length:=by
    have:=aFf c;lia
   refine⟨_,cT.of W.Z8,_,at_of (j:=h) (v:=bv.getD h .non) rfl ?_,q⟩;rw[aFv hh,aFe,aFv hh];rfl
  ·have hh:bv.length≤h:=by
    have:¬((h:Int)<bv.length):=fun z=>c (aFc z);lia
   rw[aFe,List.getElem?_eq_none hh] at q;exact q
def x9(k:Nat):Nat:=if k=1 then 2 else if k=7 then 2 else if k=8 then 2 else if k=9 then 4 else if k=10 then 4 else if k=14 then 1 else 0
theorem RZ(k:Nat):(BO.lookup (k:Int)).getD (.int 0)= .int (x9 k:Nat):=by
 unfold BO x9;simp only[aFD,List.lookup_nil];by_cases h1:k=1
 ·subst h1;rfl
 ·by_cases h2:k=7
  ·subst h2;rfl
  ·by_cases h3:k=8
   ·subst h3;rfl
   ·by_cases h4:k=9
    ·subst h4;rfl
    ·by_cases h5:k=10
     ·subst h5;rfl
     ·by_cases h6:k=14
      ·subst h6;rfl
      ·rw[aFG.mpr (show (k:Int)≠1 by lia),aFG.mpr (show (k:Int)≠7 by lia),aFG.mpr (show (k:Int)≠8 by lia),aFG.mpr (show (k:Int)≠9 by lia),aFG.mpr (show (k:Int)≠10 by lia),aFG.mpr (show (k:Int)≠14 by lia),if_neg h1,if_neg h2,if_neg h3,if_neg h4,if_neg h5,if_neg h6];rfl
theorem fP(b:Br.Bytes)(w p:Nat):Br.behind b w p=if Br.kindAt b p=1∧p+3≤b.length∧Br.sizeOk (Br.le b (p+1) 2)=true then 2+2*Br.woven w (Br.le b (p+1) 2)+4*Br.le b (p+1) 2 else x9 (Br.kindAt b p):=by
 unfold Br.behind x9
 split
 ·rename_i h;rw[h];by_cases c:p+3≤b.length∧Br.sizeOk (Br.le b (p+1) 2)=true
  ·rw[if_pos c,if_pos ⟨rfl,c⟩]
  ·rw[if_neg c,if_neg (fun z=>c z.2)];rfl
 ·rename_i h;rw[h];rfl
 ·rename_i h;rw[h];rfl
 ·rename_i h;rw[h];rfl
 ·rename_i h;rw[h];rfl
 ·rename_i h;rw[h];rfl
 ·rename_i h1 h2 h3 h4 h5 h6;rw[if_neg (fun z=>h1 z.1),if_neg h1,if_neg h2,if_neg h3,if_neg h4,if_neg h5,if_neg h6]
theorem size_le{m:Nat}(h:Br.sizeOk m=true):1≤m∧m≤64:=BM.eQ (by rw[h];rfl)
theorem IU(D:Def K mg "layer_end" zY ["walk"])(T:sE K mg)(TW:hU K C)(cR:cV P w K mg base C "layer" ["self"] 1 (fF C))(dX:cV P w K mg base C "told" ["self","offset"] 2 (j6 C))
  (c7:Own P w K mg base "is_size" ["n"] 1 gJ) (cK:Own P w K mg base "woven_size" ["k","n"] 2 eJ):Own P w K mg base "layer_end" ["walk"] 3 (lE C):=by
 refine D.own lF (fun vs H Q E h=>?_) (fun f cdv A outer s H vs Q E hr h=>?_)
 ·obtain⟨p,v,b,bv,z,rfl,_⟩:=h;rfl
 ·obtain⟨p,v,b,bv,z,rfl,W,hi,q⟩:=h;refine aA T.BEHIND fun cB ET KB=>?_;have F:=W.rd TW;rw[fP] at q;have xZ:=BM.dY b;refine⟨_,(aZ (bK (i:=1) lF.nd rfl (Or.inl rfl) (cJ cR hr (by decide) (pv 0)))
   (aZ (bK (i:=2) lF.nd rfl (Or.inl rfl) (bH bX (bH bX (bB (pv 0) rfl) a8) (LL (GS rfl ET) (pv 1) a8 ⟨rfl,rfl,rfl,rfl⟩)))
   (aZ (cE (PW.pt (jM (bU (gO (pv 1) a8)) (k0 (bU (jN (pv 2) (bY bQ (by rfl) T.len PySem.boot_len (aY (bB (pv 0) rfl) a6))))))) (bA (bI (pv 2))) bT)
   (aZ (bK (i:=3) lF.nd rfl (Or.inl rfl) (oY dX hr (by decide) (pv 0) (aY a8 a6)))
   (aZ (cE (jT (eO (bN c7 hr (by decide) rfl (aY (pv 3) a6)))) (bA (bI (pv 2))) bT)
   (bA (bI (bH bX (bH bX (pv 2) (bH eC a8 (bN cK hr (by decide) rfl (aY (bB (pv 0) rfl) (aY (pv 3) a6))))) (bH eC a8 (pv 3)))))))))),?_⟩
  walk_at"1";refine⟨p,v,b,bv,z,rfl,W,hi,?_⟩;generalize hk:Br.kindAt (BM.bytesOf b) v.place=k at q;walk_at"1";refine⟨_,KB,?_⟩;rw[RZ];walk_at"1";refine cZ (fun c=>?_) (fun c=>?_)
  ·have hk1:¬k=1:=fun z=>by
    have:=of_decide_eq_false c;lia
   rw[if_neg (fun z=>hk1 z.1)] at q;exact q
  ·have hk1:k=1:=by
    have:decide ((k:Int)=1)=true:=by simpa using c
    have:=aFf this;lia
   subst hk1;refine⟨_,.inl (cT.of W.net),?_⟩;rw[bM];refine cZ (fun c2=>?_) (fun c2=>?_)
   ·have h2:=aFf c2;rw[show x9 1=2 from rfl] at h2;rw[if_neg (fun z=>by lia)] at q;exact q
   ·have h2:v.place+3≤b.length:=by
     have:¬((b.length:Int)<v.place+1+(x9 1:Nat)):=fun z=>c2 (aFc z);rw[show x9 1=2 from rfl] at this;lia
    walk_at"1";refine⟨p,v,b,bv,z,1,rfl,W,by lia,?_⟩;generalize hm:Br.le (BM.bytesOf b) (v.place+1) 2=m at q ⊢;walk_at"1";refine⟨m,rfl,?_⟩;walk_at"1";refine cZ (fun c3=>?_) (fun c3=>?_)
    ·rw[if_neg (fun z=>by rw[c3] at z;exact Bool.noConfusion z.2.2)] at q;exact q
    ·have c4:Br.sizeOk m=true:=by simpa using c3
     have hm2:=size_le c4;walk_at"1";refine⟨v.w,m,rfl,?_,by lia,?_⟩
     ·rw[W.w];exact W.spot.2.1
     ·walk_at"1";refine⟨.inl ⟨by decide,by decide⟩,.inl ⟨by decide,by decide⟩,?_⟩;rw[if_pos ⟨rfl,by lia,c4⟩,←W.w] at q;rw[show x9 1=2 from rfl,show ((v.place:Int)+1+((2:Nat):Int)+2*((Br.woven v.w m:Nat):Int)+4*((m:Nat):Int))=((v.place+1+(2+2*Br.woven v.w m+4*m):Nat):Int) from by lia];exact q
end
local macro_rules | `(tactic| walk_at"0")=>sm true ([]) (P2++RX++mV++mL++lK++eS++eM)
local macro_rules | `(tactic| walk_at"2")=>sm true (ZZ) (P2++RX++mV++mL++lK++eS++eM)
abbrev zX:Stmt:=top 47
theorem vR:bJ ["walk","layer"] ["walk"] (bC zX):=bV (by kernel_rfl)
abbrev nF:Stmt:=top 51
theorem lX:bJ ["walk","layer"] ["walk"] (bC nF):=bV (by kernel_rfl)
abbrev nG:Stmt:=top 52
theorem lY:bJ ["walk","layer"] ["walk"] (bC nG):=bV (by kernel_rfl)
abbrev oP:Stmt:=top 53
theorem jB:bJ ["walk","layer","r"] ["walk"] (bC oP):=bV (by kernel_rfl)
theorem AH{k n:Nat}{m:Int}{A B:Prop}(h1:k=n→A)(h2:k≠n→B)(e:m=(n:Int):=by rfl):if decide ((k:Int)=m)=true then A else B:=by
 subst e;refine cZ (fun c=>h1 ?_) (fun c=>h2 fun z=>c ?_)
 ·have:=aFf c;lia
 ·rw[z];exact aFc rfl
section
variable{P:Program}{w:World}{K:W.Frag}{mg:Str→Option Value}{base:Heap}{C:Addr}
theorem w9{b:Br.Bytes}{z:Br.Spot}{p:Nat}:((z.next (Br.layerOf b z.w p)).w:Nat)=if Br.kindAt b p=1 then Br.le b (p+1) 2 else if Br.kindAt b p=9∨Br.kindAt b p=10 then Br.le b (p+3) 2 else if Br.kindAt b p=11 then z.aside.headD 0 else if Br.kindAt b p=12 then z.aside.headD 0+z.w else if Br.kindAt b p=13 then 1 else z.w:=by
 unfold Br.layerOf
 split <;> (rename_i h;first | (rw[h];rfl) | skip)
 rw[if_neg ‹_›,if_neg (fun q=>by rcases q with q | q <;> contradiction),if_neg ‹_›,if_neg ‹_›,if_neg ‹_›];rfl
theorem DZ{l:List Nat}(h:l≠[]):NN (nums l.reverse) (-1)=some (V.int (l.headD 0:Nat)):=by
 cases l with
 | nil=>exact absurd rfl h
 | cons x r=>
  unfold NN RM;rw[bM,aFj,List.length_cons,if_neg (by decide),if_pos (by lia)];show (nums (x::r).reverse)[(-1+((r.length+1:Nat):Int)).toNat]?=_;rw[show (-1+((r.length+1:Nat):Int)).toNat=r.length from by lia,mG (by rw[aFj,List.length_cons];lia)];rw[aFr,aFe,aFu (by rw[aFj];exact aFi _),aFj,Nat.sub_self];rfl
theorem IT(D:Def K mg "new_width" zX ["walk"])(T:sE K mg)(TW:hU K C)(cR:cV P w K mg base C "layer" ["self"] 1 (fF C))(dX:cV P w K mg base C "told" ["self","offset"] 2 (j6 C)):
  Own P w K mg base "new_width" ["walk"] 3 (gS C):=by
 refine D.own vR (fun vs H Q E h=>?_) (fun f cdv A outer s H vs Q E hr h=>?_)
 ·obtain⟨p,v,b,bv,z,rfl,_⟩:=h;rfl
 ·obtain⟨p,v,b,bv,z,rfl,W,⟨hi,hw⟩,ha,q⟩:=h;have F:=W.rd TW;rw[w9] at q;rw[fP] at hw;have xZ:=BM.dY b;refine⟨_,(aZ (bK (i:=1) vR.nd rfl (Or.inl rfl) (cJ cR hr (by decide) (pv 0)))
   (aZ (cE (bU (cY (pv 1) a8)) (bA (bI (oY dX hr (by decide) (pv 0) (aY a8 a6)))) bT)
   (aZ (cE (PW.pt (jM (bU (cY (pv 1) a8)) (k0 (bU (cY (pv 1) a8))))) (bA (bI (oY dX hr (by decide) (pv 0) (aY a8 a6)))) bT)
   (aZ (cE (bU (cY (pv 1) a8)) (bA (bI (cC bZ (bB (pv 0) rfl) (fD dZ a8) (fun _ _=>rfl)))) bT)
   (aZ (cE (bU (cY (pv 1) a8)) (bA (bI (bH bX (cC bZ (bB (pv 0) rfl) (fD dZ a8) (fun _ _=>rfl)) (bB (pv 0) rfl)))) bT)
   (aZ (cE (bU (cY (pv 1) a8)) (bA (bI a8)) bT)
   (bA (bI (bB (pv 0) rfl))))))))),?_⟩
  walk_at"2";refine⟨p,v,b,bv,z,rfl,W,hi,?_⟩;generalize hk:Br.kindAt (BM.bytesOf b) v.place=k at q hw ha;walk_at"2";refine AH (n:=1) (fun c=>?_) (fun c1=>?_)
  ·subst c;have h3:v.place+3≤b.length:=by
    split at hw
    ·lia
    ·rw[show x9 1=2 from rfl] at hw;lia
   exact⟨p,v,b,bv,z,1,rfl,W,by lia,q⟩
  walk_at"2";refine AH (n:=9) (fun c=>?_) (fun c2=>?_)
  ·subst c;rw[if_neg (fun z=>absurd z.1 (by decide)),show x9 9=4 from rfl] at hw;exact⟨p,v,b,bv,z,3,rfl,W,by lia,q⟩
  walk_at"2";refine AH (n:=10) (fun c=>?_) (fun c3=>?_)
  ·subst c;rw[if_neg (fun z=>absurd z.1 (by decide)),show x9 10=4 from rfl] at hw;exact⟨p,v,b,bv,z,3,rfl,W,by lia,q⟩
  walk_at"2";refine AH (n:=11) (fun c=>?_) (fun c4=>?_)
  ·subst c;exact⟨_,cT.of W.zG,_,DZ (ha (.inl rfl)),q⟩
  walk_at"2";refine AH (n:=12) (fun c=>?_) (fun c5=>?_)
  ·subst c;refine⟨_,cT.of W.zG,_,DZ (ha (.inr rfl)),_,rfl,?_⟩;rw[W.w];walk_at"2";exact q
  walk_at"2";refine AH (n:=13) (fun c=>?_) (fun c6=>?_)
  ·subst c;exact q
  ·rw[if_neg c1,if_neg (fun z=>z.elim c2 c3),if_neg c4,if_neg c5,if_neg c6,←W.w] at q;walk_at"2";exact q
inductive lR(C:Addr)(g:Br.Spot→Br.Layer→Bool)(vs:List V)(H:Hp)(Q:VK)(E:XK):Prop
 | mk (p:Addr) (v:WV) (b:List Nat) (bv:List V) (z:Br.Spot) (_:vs=[.ref p]) (_:lM C H p v b bv z) (_:sD b z v.place) (_:Br.kindAt (BM.bytesOf b) v.place≤15) (_:∀ H',Same H H'→Q (.bl (g z (Br.layerOf (BM.bytesOf b) z.w v.place))) H'):lR C g vs H Q E
theorem MJ(k:Nat):∀ l:List Nat,inV (.int k) (nums l)=decide (k∈l)
 | []=>rfl
 | x::l=>by
  have ih:=MJ k l;unfold inV nums at ih ⊢;rw[List.map_cons,List.any_cons,ih];have e:Z0 (.int (x:Nat)) (.int (k:Nat))=decide (k=x):=by
   show decide ((x:Int)=(k:Int))=_;by_cases c:k=x
   ·rw[c];simp
   ·rw[decide_eq_false c,decide_eq_false (by lia)]
  rw[e];by_cases c:k=x
  ·simp [c]
  ·simp [c]
theorem HG:∀ l:List Nat,(nums l).all xI=true
 | []=>rfl
 | x::l=>by
  unfold nums;rw[List.map_cons,List.all_cons];exact Bool.and_eq_true_iff.mpr ⟨rfl,HG l⟩
theorem in_nums{K:W.Frag}{H:Hp}{p:Addr}{k:Nat}(l:List Nat){xs:List V}{Q:VK}(h:Q (.bl (decide (k∈l))) (upd H p (.tup xs)))(e:xs=nums l:=by rfl):rIn K false (.int (k:Nat)) (.ref p) (upd H p (.tup xs)) Q:=by
 subst e;refine⟨p,nums l,rfl,.inr (gF.of a7),rfl,HG l,?_⟩;rw[MJ];exact h
def aBK(l:List Nat):PyData:= .list (l.map fun (n:Nat)=>PyData.int (n:Int))
theorem xL{K:W.Frag}{H:Hp}:∀ l:List Nat,EU K H (nums l) (l.map fun (n:Nat)=>PyData.int (n:Int))
 | []=> .nil
 | x::l=> .cons (.int _) (xL l)
theorem DY:∀ l:List Nat,PyData.canLayAll0 (l.map fun (n:Nat)=>PyData.int (n:Int))=true
 | []=>by simp [PyData.canLayAll0]
 | x::l=>by
  rw[List.map_cons,PyData.canLayAll0,DY l];simp [PyData.canLay0]
theorem vI:∀ l:List Nat,PyData.depthAll (l.map fun (n:Nat)=>PyData.int (n:Int))=0
 | []=>by simp [PyData.depthAll]
 | x::l=>by
  rw[List.map_cons,PyData.depthAll,vI l];simp [PyData.depth]
theorem EF:∀ l m:List Nat,PyData.eqvAll (l.map fun (n:Nat)=>PyData.int (n:Int)) (m.map fun (n:Nat)=>PyData.int (n:Int))=decide (l=m)
 | [],[]=>by simp [PyData.eqvAll]
 | [],_::_=>by simp [PyData.eqvAll]
 | _::_,[]=>by simp [PyData.eqvAll]
 | x::l,y::m=>by
  rw[List.map_cons,List.map_cons,PyData.eqvAll,EF l m,PyData.eqv];by_cases c:x=y
  ·by_cases c2:l=m
   ·simp [c,c2]
   ·simp [c,c2]
  ·have:¬(x:Int)=y:=by lia
   simp [c,this]
def P1(a:Nat)(l:List Nat):PyData:= .tuple [.int (a:Int),aBK l]
theorem BU(a:Nat)(l:List Nat):SeqAt.shaped (P1 a l)=true:=by
 unfold SeqAt.shaped P1 aBK;simp [PyData.canLay0,PyData.canLayAll0,PyData.depth,PyData.depthAll,DY,vI]
theorem YC(a b:Nat)(l m:List Nat):PyData.eqv (P1 a l) (P1 b m)=decide (a=b∧l=m):=by
 unfold P1 aBK;rw[PyData.eqv,PyData.eqvAll,PyData.eqvAll,PyData.eqvAll,PyData.eqv,PyData.eqv,EF];by_cases c:a=b
 ·by_cases c2:l=m
  ·simp [c,c2]
  ·simp [c,c2]
 ·have:¬(a:Int)=b:=by lia
  simp [c,this]
theorem WH{x:V}{r:List V}:NN (x::r).reverse (-1)=some x:=by
 unfold NN RM;rw[aFj,List.length_cons,if_neg (by decide),if_pos (by lia)];show (x::r).reverse[(-1+((r.length+1:Nat):Int)).toNat]?=_;rw[show (-1+((r.length+1:Nat):Int)).toNat=r.length from by lia,aFr,aFu (by rw[aFj];exact aFi _),aFj,Nat.sub_self];rfl
theorem uZ(D:Def K mg "has_wrong_width" nF ["walk"])(T:sE K mg)(TW:hU K C)(cR:cV P w K mg base C "layer" ["self"] 1 (fF C))(dX:cV P w K mg base C "told" ["self","offset"] 2 (j6 C))
  (c7:Own P w K mg base "is_size" ["n"] 1 gJ) (dH:Own P w K mg base "new_width" ["walk"] 3 (gS C)):Own P w K mg base "has_wrong_width" ["walk"] 4 (lR C Br.Spot.tooWide):=by
 refine D.own lX (fun vs H Q E h=>?_) (fun f cdv A outer s H vs Q E hr h=>?_)
 ·obtain⟨p,v,b,bv,z,rfl,_⟩:=h;rfl
 ·obtain⟨p,v,b,bv,z,rfl,W,hw,JL,q⟩:=h;have F:=W.rd TW;refine⟨_,(aZ (bK (i:=1) lX.nd rfl (Or.inl rfl) (cJ cR hr (by decide) (pv 0)))
   (aZ (dG (cE (PW.pt (pK (bU (cY (pv 1) a8)) (lJ (bU (jN (bH bX (oY dX hr (by decide) (pv 0) (aY a8 a6)) (oY dX hr (by decide) (pv 0) (aY a8 a6))) (bB (pv 0) rfl)))))) (bA (bI Q7)) bT))
   (aZ (dG (cE (PW.pt (pK (bU (cY (pv 1) a8)) (lJ (bU (jN (bY bQ (by rfl) T.len PySem.boot_len (aY (bB (pv 0) rfl) a6)) a8))))) (bA (bI (hG (jN (bN dH hr (by decide) rfl (aY (pv 0) a6)) (cH rfl T.MOST_WIDE))))) bT))
   (aZ (cE (BE sU (pv 1) (fC (aY a8 (aY a8 (aY a8 a6)))) (by with_unfolding_all rfl)) (bA (bI (aBf (bN c7 hr (by decide) rfl (aY (bN dH hr (by decide) rfl (aY (pv 0) a6)) a6))))) bT)
   (bA (bI Q7)))))),?_⟩
  walk_at"2";refine⟨p,v,b,bv,z,rfl,W,hw.1,?_⟩;generalize hk:Br.kindAt (BM.bytesOf b) v.place=k at JL;have MO:=hw.2;rw[fP,hk] at MO;walk_at"2";refine⟨fun σ' H'=>σ'=[some (.ref p),some (.int k)]∧H'=H∧¬(k=10∧z.w<Br.le (BM.bytesOf b) (v.place+1) 2+Br.le (BM.bytesOf b) (v.place+3) 2),?_,?_⟩
  ·walk_at"2";refine AH (n:=10) (fun c=>?_) (fun c=>fun z=>c z.1);subst c;rw[if_neg (fun z=>absurd z.1 (by decide)),show x9 10=4 from rfl] at MO;refine⟨p,v,b,bv,z,1,rfl,W,by lia,?_⟩;walk_at"2";refine⟨p,v,b,bv,z,3,rfl,W,by lia,?_⟩;walk_at"2";rw[W.w];refine cZ (fun c2=>?_) (fun c2=>fun z=>c2 (aFc (by lia)));have h2:=aFf c2;have e:z.tooWide (Br.layerOf (BM.bytesOf b) z.w v.place)=true:=by
    unfold Br.layerOf;rw[hk];show (!Br.sizeOk _||decide (z.w<_+_))=true;rw[aFc (by lia),Bool.or_true]
   rw[e] at q;exact q H (Same.refl H)
  ·rintro σ' H' ⟨rfl,rfl,n10⟩;walk_at"2";refine⟨fun σ' H2=>σ'=[some (.ref p),some (.int k)]∧H2=H'∧¬(k=12∧z.aside≠[]),?_,?_⟩
   ·walk_at"2";refine AH (n:=12) (fun c=>?_) (fun c=>fun z=>c z.1);subst c;refine⟨_,.inl (cT.of W.zG),?_⟩;rw[bM,aFj];refine cZ (fun c2=>?_) (fun c2=>fun z=>c2 (aFc ?_))
    ·have h2:=aFf c2;have hne:z.aside≠[]:=fun z'=>by rw[z'] at h2;exact absurd h2 (by decide)
     refine⟨p,v,b,bv,z,rfl,W,hw,fun _=>hne,?_⟩;walk_at"2";have e:z.tooWide (Br.layerOf (BM.bytesOf b) z.w v.place)=decide ((64:Int)<((z.next (Br.layerOf (BM.bytesOf b) z.w v.place)).w:Nat)):=by
      rw[w9,hk];have hl:Br.layerOf (BM.bytesOf b) z.w v.place= .join:=by simp only[Br.layerOf,hk]
      rw[hl];show (match z.aside with | []=>false | a::_=>decide (Br.MOST<a+z.w))=decide ((64:Int)<((z.aside.headD 0+z.w:Nat):Int))
      cases ez:z.aside with
      | nil=>exact absurd ez hne
      | cons a l=>
       show decide (64<a+z.w)=decide ((64:Int)<((a+z.w:Nat):Int));congr 1;exact propext ⟨fun h=>by lia,fun h=>by lia⟩
     rw[e] at q;exact q H' (Same.refl H')
    ·have:=List.length_pos_iff.mpr z.2;lia
   ·rintro σ' H2 ⟨rfl,rfl,n12⟩;walk_at"2";refine⟨by decide,fun pt hpt=>in_nums [1,9,10] ?_⟩;have sm:Same H2 (upd H2 pt (.tup [V.int 1,V.int 9,V.int 10])):=a9 hpt;have W2:=W.same sm;walk_at"2";refine cZ (fun c=>?_) (fun c=>?_)
    ·have hm:=aFf c;have hm':k=1∨k=9∨k=10:=by simpa using hm
     refine⟨p,v,b,bv,z,rfl,W2,hw,fun z=>by lia,?_⟩;walk_at"2";refine⟨_,rfl,?_⟩;walk_at"2";have e:z.tooWide (Br.layerOf (BM.bytesOf b) z.w v.place)= !Br.sizeOk (z.next (Br.layerOf (BM.bytesOf b) z.w v.place)).w:=by
      unfold Br.layerOf;rcases hm' with rfl | rfl | rfl
      ·rw[hk];rfl
      ·rw[hk];rfl
      ·rw[hk];show (!Br.sizeOk (Br.le (BM.bytesOf b) (v.place+3) 2)||decide (z.w<Br.le (BM.bytesOf b) (v.place+1) 2+Br.le (BM.bytesOf b) (v.place+3) 2))= !Br.sizeOk (Br.le (BM.bytesOf b) (v.place+3) 2);rw[decide_eq_false (fun z=>n10 ⟨rfl,z⟩),Bool.or_false]
     rw[e] at q;walk_at"2";exact q _ sm
    ·have hm':¬(k=1∨k=9∨k=10):=fun z=>c (aFc (by simpa using z));have e:z.tooWide (Br.layerOf (BM.bytesOf b) z.w v.place)=false:=by
      unfold Br.layerOf;rw[hk]
      split <;> first | rfl | (exfalso;lia) | skip
      show (match z.aside with | []=>false | a::_=>decide (Br.MOST<a+z.w))=false
      cases ez:z.aside with
      | nil=>rfl
      | cons a l=>exact absurd ⟨rfl,by rw[ez];exact fun h=>by cases h⟩ n12
     rw[e] at q;walk_at"2";exact q _ sm
theorem u0(D:Def K mg "has_wrong_aside" nG ["walk"])(T:sE K mg)(TW:hU K C)(cR:cV P w K mg base C "layer" ["self"] 1 (fF C)):Own P w K mg base "has_wrong_aside" ["walk"] 2 (lR C Br.Spot.without):=by
 refine D.own lY (fun vs H Q E h=>?_) (fun f cdv A outer s H vs Q E hr h=>?_)
 ·obtain⟨p,v,b,bv,z,rfl,_⟩:=h;rfl
 ·obtain⟨p,v,b,bv,z,rfl,W,hw,JL,q⟩:=h;have F:=W.rd TW;refine⟨_,(aZ (bK (i:=1) lY.nd rfl (Or.inl rfl) (cJ cR hr (by decide) (pv 0)))
   (aZ (cE (bU (cY (pv 1) a8)) (bA (bI (hG (LP (bY bQ (by rfl) T.len PySem.boot_len (aY (bB (pv 0) rfl) a6)) (cH rfl T.MOST_ASIDE))))) bT)
   (aZ (dG (cE (PW.pt (pK (BE sU (pv 1) (fC (aY a8 (aY a8 (aY a8 (aY a8 a6))))) (by with_unfolding_all rfl)) (lJ (bU (cY (bY bQ (by rfl) T.len PySem.boot_len (aY (bB (pv 0) rfl) a6)) a8))))) (bA (bI Q7)) bT))
   (bA (bI (IP (Q6 sU (pv 1) (fC (aY a8 (aY a8 a6))) (by with_unfolding_all rfl)) (DB (hG (gO (cC bZ (bB (pv 0) rfl) (fD dZ a8) (fun _ _=>rfl)) (bB (pv 0) rfl)))))))))),?_⟩
  walk_at"2";refine⟨p,v,b,bv,z,rfl,W,hw.1,?_⟩;generalize hk:Br.kindAt (BM.bytesOf b) v.place=k at JL;walk_at"2";refine AH (n:=4) (fun c=>?_) (fun c4=>?_)
  ·subst c;refine⟨_,.inl (cT.of W.zG),?_⟩;rw[bM,aFj];have e:z.without (Br.layerOf (BM.bytesOf b) z.w v.place)=decide ((16:Int)≤(z.aside.length:Nat)):=by
    unfold Br.layerOf;rw[hk];show decide (16≤z.aside.length)=_;congr 1;exact propext ⟨fun h=>by lia,fun h=>by lia⟩
   rw[e] at q;exact q H (Same.refl H)
  ·walk_at"2";refine⟨fun σ' H'=>σ'=[some (.ref p),some (.int k)]∧Same H H'∧¬((k=5∨k=6∨k=11∨k=12)∧z.aside=[]),?_,?_⟩
   ·walk_at"2";refine⟨by decide,fun pt hpt=>in_nums [5,6,11,12] ?_⟩;have sm:Same H (upd H pt (.tup [V.int 5,V.int 6,V.int 11,V.int 12])):=a9 hpt;have W2:=W.same sm;have F:=W2.rd TW;walk_at"2";refine cZ (fun c=>?_) (fun c=>⟨sm,fun z=>c (aFc (by simpa using z.1))⟩);have hm:k=5∨k=6∨k=11∨k=12:=by simpa using aFf c
    refine⟨_,.inl (cT.of W2.zG),?_⟩;rw[bM,aFj];refine cZ (fun c2=>?_) (fun c2=>⟨sm,fun z=>c2 (by rw[z.2];rfl)⟩);have h2:z.aside=[]:=by
     have:=aFf c2;exact List.length_eq_zero_iff.mp (by lia)
    have e:z.without (Br.layerOf (BM.bytesOf b) z.w v.place)=true:=by
     unfold Br.layerOf Br.Spot.without;rcases hm with rfl | rfl | rfl | rfl <;> rw[hk,h2] <;> rfl
    rw[e] at q;exact q _ sm
   ·rintro σ' H' ⟨rfl,sm,n4⟩;walk_at"2";refine⟨by decide,fun pt hpt=>in_nums [5,6] ?_⟩;have tF:Same H (upd H' pt (.tup [V.int 5,V.int 6])):=sm.trans (a9 hpt);have W2:=W.same tF;have F:=W2.rd TW;walk_at"2";refine cZ (fun c=>?_) (fun c=>?_)
    ·have hm:k=5∨k=6:=by simpa using aFf c
     have hne:z.aside≠[]:=fun z'=>n4 ⟨by lia,z'⟩;refine⟨_,cT.of W2.zG,_,DZ hne,?_⟩;walk_at"2";have e:z.without (Br.layerOf (BM.bytesOf b) z.w v.place)= !decide (((z.aside.headD 0:Nat):Int)=(v.w:Nat)):=by
      have e2:(z.aside.head? !=some z.w)= !decide (((z.aside.headD 0:Nat):Int)=(v.w:Nat)):=by
       rw[W.w]
       cases ez:z.aside with
       | nil=>exact absurd ez hne
       | cons a l=>
        show (some a !=some z.w)= !decide ((a:Int)=(z.w:Nat));by_cases c3:a=z.w
        ·rw[c3,aFc rfl];simp
        ·rw[decide_eq_false (by lia)];simp [c3]
      rw[←e2];unfold Br.layerOf;rcases hm with rfl | rfl <;> rw[hk] <;> rfl
     rw[e] at q;exact q _ tF
    ·have hm:¬(k=5∨k=6):=fun z=>c (aFc (by simpa using z));have e:z.without (Br.layerOf (BM.bytesOf b) z.w v.place)=false:=by
      unfold Br.layerOf;rw[hk]
      split <;> first | rfl | (exfalso;lia) | skip
      ·show z.aside.isEmpty=false
       cases ez:z.aside with
       | nil=>exact absurd ⟨by lia,ez⟩ n4
       | cons a l=>rfl
      ·show z.aside.isEmpty=false
       cases ez:z.aside with
       | nil=>exact absurd ⟨by lia,ez⟩ n4
       | cons a l=>rfl
     rw[e] at q;exact q _ tF
theorem wQ(D:Def K mg "has_wrong_loop" oP ["walk"])(T:sE K mg)(TW:hU K C)(cR:cV P w K mg base C "layer" ["self"] 1 (fF C)):Own P w K mg base "has_wrong_loop" ["walk"] 2 (lR C Br.Spot.astray):=by
 refine D.own jB (fun vs H Q E h=>?_) (fun f cdv A outer s H vs Q E hr h=>?_)
 ·obtain⟨p,v,b,bv,z,rfl,_⟩:=h;rfl
 ·obtain⟨p,v,b,bv,z,rfl,W,hw,JL,q⟩:=h;have F:=W.rd TW;refine⟨_,(aZ (bK (i:=1) jB.nd rfl (Or.inl rfl) (cJ cR hr (by decide) (pv 0)))
   (aZ (cE (bU (cY (pv 1) a8)) (aZ (bK (i:=2) jB.nd rfl (Or.inl rfl) (cC bZ (bB (pv 0) rfl) (bH bX (bB (pv 0) rfl) a8) (fun _ _=>rfl)))
   (bA (bI (aAr (hG (wM (pv 2) a8)) (DB (hG (jN (bH eC (bB (pv 0) rfl) (pv 2)) (cH rfl T.MOST_TIMES)))))))) bT)
   (aZ (cE (bU (cY (pv 1) a8)) (bA (bI (aAr (hG (cY (bY bQ (by rfl) T.len PySem.boot_len (aY (bB (pv 0) rfl) a6)) a8)) (DB (Q6 (VW hr.units) (jE aAR (cC bZ (bB (pv 0) rfl) (fD dZ a8) (fun _ _=>rfl)) (gU a8) wL) (fC (aY (bB (pv 0) rfl) (aY (bB (pv 0) rfl) a6))) (by first | exact wV _ (by decide) (by decide) | rfl)))))) bT)
   (bA (bI (IP (hG (cY (pv 1) a8)) (DB (hG (jN (bH bX (bY bQ (by rfl) T.len PySem.boot_len (aY (bB (pv 0) rfl) a6)) (bY bQ (by rfl) T.len PySem.boot_len (aY (bB (pv 0) rfl) a6))) a8))))))))),?_⟩
  walk_at"2";refine⟨p,v,b,bv,z,rfl,W,hw.1,?_⟩;generalize hk:Br.kindAt (BM.bytesOf b) v.place=k at JL;walk_at"2";have MO:=hw.2;rw[fP,hk] at MO;refine AH (n:=14) (fun c=>?_) (fun c14=>?_)
  ·subst c;rw[if_neg (fun z=>absurd z.1 (by decide)),show x9 14=1 from rfl] at MO;have hp1:v.place+1<b.length:=by lia
   have aCD:=BM.dB (B:=256) (by decide) W.bytes (v.place+1);have e:z.astray (Br.layerOf (BM.bytesOf b) z.w v.place)=(decide (b.getD (v.place+1) 0<2)||decide (256<z.often*b.getD (v.place+1) 0)):=by
    unfold Br.layerOf;rw[hk];show (decide (Br.le (BM.bytesOf b) (v.place+1) 1<2)||decide (256<z.often*Br.le (BM.bytesOf b) (v.place+1) 1))=_;rw[BM.ZI W.bytes hp1]
   rw[e] at q;refine⟨_,cT.of W.net,_,cW (i:=v.place+1) hp1 (by lia),_,rfl,cZ (fun c=>?_) (fun c=>⟨_,rfl,.inr ⟨by lia,by lia⟩,?_⟩)⟩
   ·have:=aFf c;rw[aFc (show b.getD (v.place+1) 0<2 by lia),Bool.true_or] at q;exact q H (Same.refl H)
   ·have:¬(((b.getD (v.place+1) 0:Nat):Int)<2):=fun z=>c (aFc z);rw[decide_eq_false (show ¬b.getD (v.place+1) 0<2 by lia),Bool.false_or] at q;rw[W.times,show decide ((256:Int)<((z.often:Nat):Int)*((b.getD (v.place+1) 0:Nat):Int))=decide (256<z.often*b.getD (v.place+1) 0) from by
     congr 1;rw[←aFw];exact propext ⟨fun h=>by lia,fun h=>by lia⟩]
    exact q H (Same.refl H)
  walk_at"2";refine AH (n:=15) (fun c=>?_) (fun c15=>?_)
  ·subst c;refine aA W.lps fun ls hls hL=>?_;have hlen:=hL.len;have el:Br.layerOf (BM.bytesOf b) z.w v.place= .back:=by simp only[Br.layerOf,hk]
   rw[el] at q;have q':∀ H',Same H H'→Q (.bl (match z.loops with | []=>true | x::_=>decide (x.2≠(z.w,z.aside)))) H':=q;refine⟨_,.inl (cT.of hls),?_⟩;rw[aFj]
   cases ez:z.loops with
   | nil=>
    rw[ez] at hlen q';refine cZ (fun c=>q' H (Same.refl H)) (fun c=>absurd (aFc (by rw[hlen];rfl)) c)
   | cons e es=>
    rw[ez] at hlen q' hL
    cases els:ls with
    | nil=>
     rw[els] at hlen;cases hlen
    | cons x r=>
     rw[els] at hL hls;obtain⟨⟨t,l,rfl,ht,hl⟩,_⟩:=hL;refine cZ (fun c=>absurd (aFf c) (by rw[List.length_cons];lia)) (fun c=>?_);refine⟨_,cT.of hls,_,WH,t,rfl,_,gF.of ht,(by show ¬(HT.jC 3 0 (some 1)=0∧HT.jC 3 3 none=3);decide),fun p1 hp1=>?_⟩;have ec:mN [V.int (BM.L6 es:Nat),V.int (e.2.1:Nat),V.ref l] (some 1) none=[V.int (e.2.1:Nat),V.ref l]:=rfl;rw[ec];have sm:Same H (upd H p1 (.tup [V.int (e.2.1:Nat),V.ref l])):=a9 hp1;have W2:=W.same sm;have F:=W2.rd TW;walk_at"2";refine⟨by decide,fun p2 hp2=>?_⟩;have tF:=sm.trans (a9 (o:= .tup [V.int (v.w:Nat),V.ref v.aside]) hp2);have h1:(upd (upd H p1 (.tup [V.int (e.2.1:Nat),V.ref l])) p2 (.tup [V.int (v.w:Nat),V.ref v.aside])) p1=some (.tup [V.int (e.2.1:Nat),V.ref l]):=by
      rw[bF (fun z=>by rw[←z,a7] at hp2;cases hp2)];exact a7
     refine⟨P1 e.2.1 e.2.2.reverse,P1 v.w z.aside.reverse,.tup (gF.of h1) (.cons (.int _) (.cons (.lst (cT.of (tF _ _ hl)) (xL _)) .nil)),.tup (gF.of a7) (.cons (.int _) (.cons (.lst (cT.of (tF _ _ W.zG)) (xL _)) .nil)),BU _ _,BU _ _,?_⟩;rw[YC,W.w];have eb:(!decide (e.2.1=z.w∧e.2.2.reverse=z.aside.reverse))=decide (e.2≠(z.w,z.aside)):=by
      by_cases c2:e.2=(z.w,z.aside)
      ·rw[c2];simp
      ·have:¬(e.2.1=z.w∧e.2.2.reverse=z.aside.reverse):=fun bO=>aD bO fun a1 a2=>c2 (Prod.ext a1 (List.reverse_inj.mp a2));rw[decide_eq_false this,aFc c2];rfl
     rw[eb];rw[W.w] at tF;exact q' _ tF
  walk_at"2";refine AH (n:=0) (fun c=>?_) (fun c0=>?_)
  ·subst c;refine aA W.lps fun ls hls hL=>?_;have hlen:=hL.len;refine⟨_,.inl (cT.of hls),_,.inl (cT.of W.zG),?_⟩;rw[aFj,bM,aFj,hlen];have e:z.astray (Br.layerOf (BM.bytesOf b) z.w v.place)=decide ((0:Int)<(z.loops.length:Nat)+(z.aside.length:Nat)):=by
    unfold Br.layerOf;rw[hk];show (!z.loops.isEmpty|| !z.aside.isEmpty)=_
    cases z.loops with
    | nil=>
     cases z.aside with
     | nil=>rfl
     | cons a l=>
      rw[aFc (by rw[List.length_nil,List.length_cons];lia)];rfl
    | cons a l=>
     rw[aFc (by rw[List.length_cons];lia)];rfl
   rw[e] at q;exact q H (Same.refl H)
  ·have e:z.astray (Br.layerOf (BM.bytesOf b) z.w v.place)=false:=by
    have hk':k=1∨k=2∨k=3∨k=4∨k=5∨k=6∨k=7∨k=8∨k=9∨k=10∨k=11∨k=12∨k=13:=by lia
    rcases hk' with rfl | rfl | rfl | rfl | rfl | rfl | rfl | rfl | rfl | rfl | rfl | rfl | rfl <;> simp only[Br.layerOf,hk] <;> rfl
   rw[e] at q;exact q H (Same.refl H)
end
local macro_rules | `(tactic| walk_at"2")=>sm false (ZZ) (P2++RX++mV++mL++lK++eS++eM)
abbrev pW:Stmt:=top 54
theorem oK:bJ ["walk","used"] ["walk"] (bC pW):=bV (by kernel_rfl)
abbrev tX:Stmt:=top 55
theorem CF:bJ ["walk"] ["walk"] (bC tX):=bV (by kernel_rfl)
abbrev QV:Stmt:=top 56
theorem VE:bJ ["walk"] ["walk"] (bC QV):=bV (by kernel_rfl)
abbrev GG:Stmt:=top 57
theorem CD:bJ ["walk","layer"] ["walk"] (bC GG):=bV (by kernel_rfl)
def NI(C:Addr)(H:Hp)(q:Addr)(N:Br.Net):Prop:=∃ dx u,H q=some (.ins C dx (WV.fs u))∧u.win=N.width∧u.w=N.widthOut∧u.dn=N.work∧u.need=N.need∧N.work≤4096
theorem NI.same{C:Addr}{H H':Hp}{q:Addr}{N:Br.Net}(sm:Same H H')(h:NI C H q N):NI C H' q N:=by
 refine aH h fun dx u h r=>?_;exact⟨dx,u,sm _ _ h,r⟩
structure iM(C:Addr)(H:Hp)(bv:List V)(Hs:Br.House)(s:Nat):Prop where
 len:bv.length=s
 at_:∀ h,h<s→(Br.kept Hs h=none∧bv.getD h .non= .non)∨∃ N q,Br.kept Hs h=some N∧bv.getD h .non= .ref q∧NI C H q N
theorem iM.same{C:Addr}{H H':Hp}{bv:List V}{Hs:Br.House}{s:Nat}(B:iM C H bv Hs s)(sm:Same H H'):iM C H' bv Hs s:=by
 refine⟨B.len,fun h hh=>?_⟩;rcases B.at_ h hh with z | ⟨N,q,h1,h2,h3⟩
 ·exact .inl z
 ·exact .inr ⟨N,q,h1,h2,h3.same sm⟩
theorem iM.met{C:Addr}{H:Hp}{bv:List V}{Hs:Br.House}{s:Nat}(B:iM C H bv Hs s)(h w m:Nat):(bv.getD h .non= .non∧Br.meant Hs s w h m=none)∨∃ N q,bv.getD h .non= .ref q∧NI C H q N ∧
  Br.meant Hs s w h m=if N.width=w∧N.widthOut=m then some N else none:=by
 by_cases c:h<s
 ·rcases B.at_ h c with ⟨h1,h2⟩ | ⟨N,q,h1,h2,h3⟩
  ·refine .inl ⟨h2,?_⟩;unfold Br.meant;rw[if_pos c,h1];rfl
  ·refine .inr ⟨N,q,h2,h3,?_⟩;unfold Br.meant;rw[if_pos c,h1];by_cases c2:N.width=w∧N.widthOut=m
   ·rw[if_pos c2];simp [Option.filter,c2.1,c2.2]
   ·rw[if_neg c2];have:(N.width==w&&N.widthOut==m)=false:=by
     rw[Bool.and_eq_false_iff,aFG,aFG];by_cases c3:N.width=w
     ·exact .inr fun z=>c2 ⟨c3,z⟩
     ·exact .inl c3
    simp [Option.filter,this]
 ·refine .inl ⟨?_,?_⟩
  ·rw[aFe,List.getElem?_eq_none (by rw[B.len];omega)];rfl
  ·unfold Br.meant;rw[if_neg c]
def gP(t:Br.Told):Nat:=Br.total t.before.aside+max t.need (t.before.w+(match t.layer with
 | .dense m _ _=>m
 | .hook _ m=>m
 | _=>0))
inductive IF(C:Addr)(vs:List V)(H:Hp)(Q:VK)(E:XK):Prop
 | mk (p:Addr) (v:WV) (b:List Nat) (bv:List V) (z:Br.Spot) (Hs:Br.House) (s:Nat) (_:vs=[.ref p]) (_:lM C H p v b bv z) (_:iM C H bv Hs s) (_:sD b z v.place) (_:Br.kindAt (BM.bytesOf b) v.place=9) (_:Q (.bl (Br.meant Hs s z.w (Br.le (BM.bytesOf b) (v.place+1) 2) (Br.le (BM.bytesOf b) (v.place+3) 2)).isSome) H):IF C vs H Q E
inductive oJ(C:Addr)(g:Br.Told→Nat)(vs:List V)(H:Hp)(Q:VK)(E:XK):Prop
 | mk (p:Addr) (v:WV) (b:List Nat) (bv:List V) (z:Br.Spot) (Hs:Br.House) (s:Nat) (t:Br.Told) (_:vs=[.ref p]) (_:lM C H p v b bv z) (_:iM C H bv Hs s) (_:sD b z v.place) (_:Br.toldAt Hs s (BM.bytesOf b) z v.place=some t) (_:z.without t.layer=false) (_:Q (.int (g t:Nat)) H):oJ C g vs H Q E
inductive B5(C:Addr)(vs:List V)(H:Hp)(Q:VK)(E:XK):Prop
 | mk (p:Addr) (v:WV) (b:List Nat) (bv:List V) (z:Br.Spot) (_:vs=[.ref p]) (_:lM C H p v b bv z) (_:Q (.int (Br.total z.aside+z.w:Nat)) H):B5 C vs H Q E
theorem L7(l:List Nat):nums l=(l.map fun (n:Nat)=>(n:Int)).map V.int:=by
 unfold nums;rw[List.map_map];rfl
theorem F9:∀ l:List Nat,(l.map fun (n:Nat)=>(n:Int)).sum=(Br.total l:Nat)
 | []=>rfl
 | x::l=>by
  rw[List.map_cons,List.sum_cons,F9 l];show (x:Int)+(Br.total l:Nat)=((x+Br.total l:Nat):Int);omega
theorem QP(l:List Nat):(l.reverse.map fun (n:Nat)=>(n:Int)).sum=(Br.total l:Nat):=by
 rw[←F9 l,List.map_reverse,List.sum_reverse]
theorem F8{Hs:Br.House}{s:Nat}{b:Br.Bytes}{z:Br.Spot}{p:Nat}{t:Br.Told}(h:Br.toldAt Hs s b z p=some t)(hk:Br.kindAt b p=9):∃ N,Br.meant Hs s z.w (Br.le b (p+1) 2) (Br.le b (p+3) 2)=some N∧t.work=N.work∧t.need=N.need:=by
 refine aK (BM.gH h) fun _ _ hz hl _ hh=>?_;have:Br.layerOf b z.w p= .hook (Br.le b (p+1) 2) (Br.le b (p+3) 2):=by simp only[Br.layerOf,hk]
 exact hh _ _ (hl.trans this)
theorem wU{b:Br.Bytes}{w p:Nat}(hk:Br.kindAt b p≠9):BM.D7 (Br.layerOf b w p)=false:=by
 unfold Br.layerOf
 split <;> first | rfl | contradiction
section
variable{P:Program}{w:World}{K:W.Frag}{mg:Str→Option Value}{base:Heap}{C:Addr}
theorem yQ(D:Def K mg "fits_used_net" pW ["walk"])(TW:hU K C)(dX:cV P w K mg base C "told" ["self","offset"] 2 (j6 C))(fW:cV P w K mg base C "used_net" ["self"] 3 (kO C)):
  Own P w K mg base "fits_used_net" ["walk"] 4 (IF C):=by
 refine D.own oK (fun vs H Q E h=>?_) (fun f cdv A outer s H vs Q E hr h=>?_)
 ·obtain⟨p,v,b,bv,z,Hs,s,rfl,_⟩:=h;rfl
 ·obtain⟨p,v,b,bv,z,Hs,s,rfl,W,B,hw,hk,q⟩:=h;have F:=W.rd TW;have MO:=hw.2;rw[fP,hk,if_neg (fun z=>absurd z.1 (by decide)),show x9 9=4 from rfl] at MO;refine⟨_,(aZ (bK (i:=1) oK.nd rfl (Or.inl rfl) (cJ fW hr (by decide) (pv 0)))
   (bA (bI (IP (hG (pM (pv 1))) (IP (hG (cY (bB (pv 1) rfl) (bB (pv 0) rfl))) (DB (hG (cY (bB (pv 1) rfl) (oY dX hr (by decide) (pv 0) (aY a8 a6)))))))))),?_⟩
  walk_at"1";refine⟨p,v,b,bv,z,rfl,W,by omega,?_⟩;walk_at"1";rcases B.met (Br.le (BM.bytesOf b) (v.place+1) 2) z.w (Br.le (BM.bytesOf b) (v.place+3) 2) with ⟨h1,h2⟩ | ⟨N,qa,h1,⟨dx,u,hq,u1,u2,u3,u4,u5⟩,h2⟩
  ·rw[h1];rw[h2] at q;walk_at"1";exact q
  ·rw[h1];rw[h2] at q;have G:=kN hq TW;simp only[G.win,G.w];walk_at"1";simp only[G.w];rw[u1,W.w,if_pos (show decide (V.ref qa=V.non)=false from decide_eq_false (fun h=>nomatch h))];refine cZ (fun c=>?_) (fun c=>?_)
   ·have e1:N.width=z.w:=by
     have:=aFf c;omega
    walk_at"1";refine⟨p,v,b,bv,z,3,rfl,W,by omega,?_⟩;walk_at"1";rw[u2];by_cases c2:N.widthOut=Br.le (BM.bytesOf b) (v.place+3) 2
    ·rw[if_pos ⟨e1,c2⟩] at q;rw[c2,aFc rfl];exact q
    ·rw[if_neg (fun z=>c2 z.2)] at q;rw[decide_eq_false (by omega)];exact q
   ·rw[if_neg (fun z'=>c (aFc (by omega)))] at q;exact q
theorem DL(D:Def K mg "layers_done" tX ["walk"])(TW:hU K C)(cR:cV P w K mg base C "layer" ["self"] 1 (fF C))(fW:cV P w K mg base C "used_net" ["self"] 3 (kO C)):
  Own P w K mg base "layers_done" ["walk"] 4 (oJ C Br.Told.cost):=by
 refine D.own CF (fun vs H Q E h=>?_) (fun f cdv A outer s H vs Q E hr h=>?_)
 ·obtain⟨p,v,b,bv,z,Hs,s,t,rfl,_⟩:=h;rfl
 ·obtain⟨p,v,b,bv,z,Hs,s,t,rfl,W,B,hw,ht,_,q⟩:=h;have F:=W.rd TW;refine aK (BM.gH ht) fun _ _ hz hl hn _=>?_;have ec:t.cost=v.times*(1+t.work):=by
   unfold Br.Told.cost;rw[hz,W.times]
  rw[ec] at q;refine⟨_,(aZ (cE (bU (cY (cJ cR hr (by decide) (pv 0)) a8)) (bA (bI (bH eC (bB (pv 0) rfl) (bH bX a8 (bB (cJ fW hr (by decide) (pv 0)) rfl))))) bT)
   (bA (bI (bB (pv 0) rfl)))),?_⟩
  walk_at"2";refine⟨p,v,b,bv,z,rfl,W,hw.1,?_⟩;walk_at"2";refine AH (n:=9) (fun c=>?_) (fun c=>?_)
  ·have MO:=hw.2;rw[fP,c,if_neg (fun z=>absurd z.1 (by decide)),show x9 9=4 from rfl] at MO;refine⟨p,v,b,bv,z,rfl,W,by omega,?_⟩;refine aC (F8 ht c) fun M hM hMw hMn=>?_;rcases B.met (Br.le (BM.bytesOf b) (v.place+1) 2) z.w (Br.le (BM.bytesOf b) (v.place+3) 2) with ⟨h1,h2⟩ | ⟨N,qa,h1,⟨dx,u,hq,u1,u2,u3,u4,u5⟩,h2⟩
   ·rw[hM] at h2;cases h2
   ·rw[hM] at h2
    split at h2
    ·cases h2;rw[h1];have G:=kN hq TW;simp only[G.dn];walk_at"2";refine⟨.inr ⟨by omega,by omega⟩,?_⟩;rw[u3,←hMw,show ((v.times:Nat):Int)*(1+((t.work:Nat):Int))=((v.times*(1+t.work):Nat):Int) from by rw[aFw,Int.natCast_add];rfl];exact q
    ·cases h2
  ·have w0:=(hn (by rw[hl];exact wU c)).1;rw[w0,Nat.add_zero,Nat.mul_one] at q;exact q
theorem V1(D:Def K mg "lying" QV ["walk"])(T:sE K mg)(TW:hU K C):Own P w K mg base "lying" ["walk"] 1 (B5 C):=by
 refine D.own VE (fun vs H Q E h=>?_) (fun f cdv A outer s H vs Q E hr h=>?_)
 ·obtain⟨p,v,b,bv,z,rfl,_⟩:=h;rfl
 ·obtain⟨p,v,b,bv,z,rfl,W,q⟩:=h;have F:=W.rd TW;refine⟨_,(bA (bI (bH bX (bY (XF rfl) (by rfl) T.sum boot_sum (aY (bB (pv 0) rfl) a6)) (bB (pv 0) rfl)))),?_⟩;walk_at"2";refine⟨v.aside,z.aside.reverse.map fun (n:Nat)=>(n:Int),rfl,by rw[←L7];exact cT.of W.zG,?_⟩;walk_at"2";rw[QP,W.w];exact q
theorem OZ(D:Def K mg "need_at" GG ["walk"])(T:sE K mg)(TW:hU K C)(cR:cV P w K mg base C "layer" ["self"] 1 (fF C))(fW:cV P w K mg base C "used_net" ["self"] 3 (kO C))
  (dH:Own P w K mg base "new_width" ["walk"] 3 (gS C)) (xV:Own P w K mg base "lying" ["walk"] 1 (B5 C)):Own P w K mg base "need_at" ["walk"] 4 (oJ C gP):=by
 refine D.own CD (fun vs H Q E h=>?_) (fun f cdv A outer s H vs Q E hr h=>?_)
 ·obtain⟨p,v,b,bv,z,Hs,s,t,rfl,_⟩:=h;rfl
 ·obtain⟨p,v,b,bv,z,Hs,s,t,rfl,W,B,hw,ht,hwo,q⟩:=h;have F:=W.rd TW;refine aK (BM.gH ht) fun _ _ hz hl hn _=>?_;refine⟨_,(aZ (bK (i:=1) CD.nd rfl (Or.inl rfl) (cJ cR hr (by decide) (pv 0)))
   (aZ (cE (bU (cY (pv 1) a8)) (bA (bI (bY (HM rfl) (by rfl) T.max boot_max (aY (bH bX (bN xV hr (by decide) rfl (aY (pv 0) a6)) (bN dH hr (by decide) rfl (aY (pv 0) a6))) (aY (bH bX (bY (XF rfl) (by rfl) T.sum boot_sum (aY (bB (pv 0) rfl) a6)) (bB (cJ fW hr (by decide) (pv 0)) rfl)) a6))))) bT)
   (aZ (cE (bU (cY (pv 1) a8)) (bA (bI (bH bX (bN xV hr (by decide) rfl (aY (pv 0) a6)) (bN dH hr (by decide) rfl (aY (pv 0) a6))))) bT)
   (bA (bI (bN xV hr (by decide) rfl (aY (pv 0) a6))))))),?_⟩
  unfold gP at q;rw[hz,hl] at q;walk_at"2";refine⟨p,v,b,bv,z,rfl,W,hw.1,?_⟩;generalize hk:Br.kindAt (BM.bytesOf b) v.place=k;walk_at"2";refine AH (n:=9) (fun c=>?_) (fun c9=>AH (n:=1) (fun c=>?_) (fun c1=>?_))
  ·subst c;have MO:=hw.2;rw[fP,hk,if_neg (fun z=>absurd z.1 (by decide)),show x9 9=4 from rfl] at MO;have el:Br.layerOf (BM.bytesOf b) z.w v.place= .hook (Br.le (BM.bytesOf b) (v.place+1) 2) (Br.le (BM.bytesOf b) (v.place+3) 2):=by simp only[Br.layerOf,hk]
   refine⟨p,v,b,bv,z,rfl,W,?_⟩;walk_at"2";refine⟨p,v,b,bv,z,rfl,W,hw,fun h=>by omega,?_⟩;walk_at"2";refine⟨v.aside,z.aside.reverse.map fun (n:Nat)=>(n:Int),rfl,by rw[←L7];exact cT.of W.zG,?_⟩;walk_at"2";refine⟨p,v,b,bv,z,rfl,W,by omega,?_⟩;refine aC (F8 ht hk) fun M hM hMw hMn=>?_;rcases B.met (Br.le (BM.bytesOf b) (v.place+1) 2) z.w (Br.le (BM.bytesOf b) (v.place+3) 2) with ⟨h1,h2⟩ | ⟨N,qa,h1,⟨dx,u,hq,u1,u2,u3,u4,u5⟩,h2⟩
   ·rw[hM] at h2;cases h2
   ·rw[hM] at h2
    split at h2
    ·cases h2;rw[h1];have G:=kN hq TW;simp only[G.need];walk_at"2";rw[QP,u4,←hMn,el];rw[el] at q;have q':Q (.int ((Br.total z.aside+max t.need (z.w+Br.le (BM.bytesOf b) (v.place+3) 2):Nat):Int)) H:=q;refine⟨_,_,⟨rfl,rfl⟩,?_⟩;show Q (.int (if (Br.total z.aside:Int)+(t.need:Nat)>((Br.total z.aside+z.w:Nat):Int)+(Br.le (BM.bytesOf b) (v.place+3) 2:Nat) then (Br.total z.aside:Int)+(t.need:Nat) else ((Br.total z.aside+z.w:Nat):Int)+(Br.le (BM.bytesOf b) (v.place+3) 2:Nat))) H;generalize Br.le (BM.bytesOf b) (v.place+3) 2=m at q' ⊢;have e:(if (Br.total z.aside:Int)+(t.need:Nat)>((Br.total z.aside+z.w:Nat):Int)+(m:Nat) then (Br.total z.aside:Int)+(t.need:Nat) else ((Br.total z.aside+z.w:Nat):Int)+(m:Nat))=((Br.total z.aside+max t.need (z.w+m):Nat):Int):=by
      split <;> omega
     rw[e];exact q'
    ·cases h2
  ·subst c;have n0:=(hn (by rw[hl];exact wU (by rw[hk];decide))).2;have el:∃ a c',Br.layerOf (BM.bytesOf b) z.w v.place= .dense (Br.le (BM.bytesOf b) (v.place+1) 2) a c':=by
    simp only[Br.layerOf,hk];exact⟨_,_,rfl⟩
   refine aW el fun a c' el=>?_;rw[n0,el] at q;refine⟨p,v,b,bv,z,rfl,W,?_⟩;walk_at"2";refine⟨p,v,b,bv,z,rfl,W,hw,fun h=>by omega,?_⟩;walk_at"2";rw[el];have q':Q (.int ((Br.total z.aside+max 0 (z.w+Br.le (BM.bytesOf b) (v.place+1) 2):Nat):Int)) H:=q;show Q (.int (((Br.total z.aside+z.w:Nat):Int)+(Br.le (BM.bytesOf b) (v.place+1) 2:Nat))) H;generalize Br.le (BM.bytesOf b) (v.place+1) 2=m at q' ⊢;rw[show ((Br.total z.aside+z.w:Nat):Int)+(m:Nat)=((Br.total z.aside+max 0 (z.w+m):Nat):Int) from by omega];exact q'
  ·have n0:=(hn (by rw[hl];exact wU (by rw[hk];exact c9))).2;refine⟨p,v,b,bv,z,rfl,W,?_⟩;have e0:(match Br.layerOf (BM.bytesOf b) z.w v.place with | .dense m _ _=>m | .hook _ m=>m | _=>0)=0:=by
    unfold Br.layerOf;rw[hk]
    split <;> first | rfl | (exfalso;omega) | skip
    all_goals (rename_i e;split at e <;> first | (cases e;done) | omega)
   rw[n0,e0] at q;rw[show Br.total z.aside+max 0 (z.w+0)=Br.total z.aside+z.w from by omega] at q;exact q
end
abbrev tY:Stmt:=top 45
theorem CG:bJ ["walk"] ["walk"] (bC tY):=bV (by kernel_rfl)
def codeOf:Option Br.Fault→Int
 | none=>0
 | some e=>e.1
inductive lU(C:Addr)(vs:List V)(H:Hp)(Q:VK)(E:XK):Prop
 | mk (p:Addr) (v:WV) (b:List Nat) (bv:List V) (z:Br.Spot) (Hs:Br.House) (s:Nat) (_:vs=[.ref p]) (_:lM C H p v b bv z) (_:iM C H bv Hs s) (_:∀ H',Same H H'→Q (.int (codeOf (Br.wrongAt Hs s (BM.bytesOf b) z v.place v.dn))) H'):lU C vs H Q E
section
variable{P:Program}{w:World}{K:W.Frag}{mg:Str→Option Value}{base:Heap}{C:Addr}
theorem DM(D:Def K mg "layer_fault" tY ["walk"])(T:sE K mg)(TW:hU K C)(cR:cV P w K mg base C "layer" ["self"] 1 (fF C))(gR:Own P w K mg base "layer_end" ["walk"] 3 (lE C))
  (jJ:Own P w K mg base "has_wrong_width" ["walk"] 4 (lR C Br.Spot.tooWide)) (jK:Own P w K mg base "has_wrong_aside" ["walk"] 2 (lR C Br.Spot.without)) (j1:Own P w K mg base "has_wrong_loop" ["walk"] 2 (lR C Br.Spot.astray))
  (k8:Own P w K mg base "fits_used_net" ["walk"] 4 (IF C)) (gA:Own P w K mg base "layers_done" ["walk"] 4 (oJ C Br.Told.cost)):Own P w K mg base "layer_fault" ["walk"] 5 (lU C):=by
 refine D.own CG (fun vs H Q E h=>?_) (fun f cdv A outer s H vs Q E hr h=>?_)
 ·obtain⟨p,v,b,bv,z,Hs,s,rfl,_⟩:=h;rfl
 ·obtain⟨p,v,b,bv,z,Hs,s,rfl,W,B,q⟩:=h;have F:=W.rd TW;have xZ:=BM.dY b;refine⟨_,(aZ (dG (cE (PW.pt (jM (bU (LP (bB (pv 0) rfl) (bY bQ (by rfl) T.len PySem.boot_len (aY (bB (pv 0) rfl) a6)))) (k0 (bU (jN (cJ cR hr (by decide) (pv 0)) (cH rfl T.LAST_LAYER)))))) (bA (bI (fD dZ a8))) bT))
   (aZ (cE (bU (jN (bN gR hr (by decide) rfl (aY (pv 0) a6)) (bY bQ (by rfl) T.len PySem.boot_len (aY (bB (pv 0) rfl) a6)))) (bA (bI (fD dZ a8))) bT)
   (aZ (cE (eO (bN jJ hr (by decide) rfl (aY (pv 0) a6))) (bA (bI (fD dZ a8))) bT)
   (aZ (cE (eO (bN jK hr (by decide) rfl (aY (pv 0) a6))) (bA (bI (fD dZ a8))) bT)
   (aZ (cE (eO (bN j1 hr (by decide) rfl (aY (pv 0) a6))) (bA (bI (fD dZ a8))) bT)
   (aZ (dG (cE (PW.pt (pK (bU (cY (cJ cR hr (by decide) (pv 0)) a8)) (lJ (bU (wM (bN gR hr (by decide) rfl (aY (pv 0) a6)) (bY bQ (by rfl) T.len PySem.boot_len (aY (bB (pv 0) rfl) a6))))))) (bA (bI (fD dZ a8))) bT))
   (aZ (dG (cE (PW.pt (pK (bU (cY (cJ cR hr (by decide) (pv 0)) a8)) (lJ (jT (eO (bN k8 hr (by decide) rfl (aY (pv 0) a6))))))) (bA (bI (fD dZ a8))) bT))
   (aZ (cE (bU (jN (bH bX (bB (pv 0) rfl) (bN gA hr (by decide) rfl (aY (pv 0) a6))) (cH rfl T.MOST_DONE))) (bA (bI (fD dZ a8))) bT)
   (bA (bI a8)))))))))),?_⟩
  unfold Br.wrongAt at q;rw[xZ] at q;refine⟨fun σ' H'=>σ'=[some (.ref p)]∧H'=H∧v.place<b.length∧Br.kindAt (BM.bytesOf b) v.place≤15,?_,?_⟩
  ·walk_at"1";refine⟨_,.inl (cT.of W.net),?_⟩;rw[bM];refine cZ (fun c=>?_) (fun c=>?_)
   ·have:=aFf c;rw[if_pos (.inl (by omega))] at q;exact q H (Same.refl H)
   ·have c':¬((b.length:Int)≤v.place):=fun z=>c (aFc z);refine⟨p,v,b,bv,z,rfl,W,by omega,?_⟩;walk_at"1";refine cZ (fun c2=>?_) (fun c2=>?_)
    ·have:=aFf c2;rw[if_pos (.inr (by omega))] at q;exact q H (Same.refl H)
    ·have:¬((15:Int)<(Br.kindAt (BM.bytesOf b) v.place:Nat)):=fun z=>c2 (aFc z);exact⟨by omega,by omega⟩
  ·rintro σ' H' ⟨rfl,rfl,hpl,JL⟩;rw[if_neg (by omega)] at q;walk_at"1";refine⟨p,v,b,bv,z,rfl,W,hpl,?_⟩;walk_at"1";refine⟨_,.inl (cT.of W.net),?_⟩;rw[bM];refine cZ (fun c=>?_) (fun c=>?_)
   ·have:=aFf c;rw[if_pos (by omega)] at q;exact q H' (Same.refl H')
   ·have c':¬((b.length:Int)<((v.place+1+Br.behind (BM.bytesOf b) z.w v.place:Nat):Int)):=fun z=>c (aFc z);have hw:sD b z v.place:=⟨hpl,by omega⟩;rw[if_neg (by omega)] at q;dsimp only at q;walk_at"1";refine⟨p,v,b,bv,z,rfl,W,hw,JL,fun H1 OD=>?_⟩;walk_at"1";refine cZ (fun c=>?_) (fun c1=>?_)
    ·rw[if_pos c] at q;exact q H1 OD
    rw[if_neg c1] at q;walk_at"1";refine⟨p,v,b,bv,z,rfl,W.same OD,hw,JL,fun H2 aDD=>?_⟩;have tF:=OD.trans aDD;walk_at"1";refine cZ (fun c=>?_) (fun c2=>?_)
    ·rw[if_pos c] at q;exact q H2 tF
    rw[if_neg c2] at q;walk_at"1";refine⟨p,v,b,bv,z,rfl,W.same tF,hw,JL,fun H3 aDB=>?_⟩;have sm3:=tF.trans aDB;have W3:=W.same sm3;have B3:=B.same sm3;have F:=W3.rd TW;walk_at"1";refine cZ (fun c=>?_) (fun c3=>?_)
    ·rw[if_pos c] at q;exact q H3 sm3
    rw[if_neg c3] at q;walk_at"1";refine⟨fun σ' H'=>σ'=[some (.ref p)]∧H'=H3∧¬(Br.kindAt (BM.bytesOf b) v.place=0∧v.place+1<b.length),?_,?_⟩
    ·walk_at"1";refine⟨p,v,b,bv,z,rfl,W3,hpl,?_⟩;walk_at"1";refine AH (n:=0) (fun c=>?_) (fun c=>fun z=>c z.1);refine⟨p,v,b,bv,z,rfl,W3,hpl,?_⟩;walk_at"1";refine⟨_,.inl (cT.of W3.net),?_⟩;have hb0:Br.behind (BM.bytesOf b) z.w v.place=0:=by
      rw[fP,c];rfl
     rw[bM,hb0];refine cZ (fun c4=>?_) (fun c4=>fun z=>c4 (aFc (by omega)));have:=aFf c4;rw[if_pos ⟨c,by omega⟩] at q;exact q H3 sm3
    ·rintro σ' H' ⟨rfl,rfl,n8⟩;rw[if_neg n8] at q;walk_at"1";refine⟨fun σ' H2=>σ'=[some (.ref p)]∧H2=H'∧∃ t,Br.toldAt Hs s (BM.bytesOf b) z v.place=some t,?_,?_⟩
     ·walk_at"1";refine⟨p,v,b,bv,z,rfl,W3,hpl,?_⟩;walk_at"1";refine AH (n:=9) (fun c=>?_) (fun c=>?_)
      ·have el:Br.layerOf (BM.bytesOf b) z.w v.place= .hook (Br.le (BM.bytesOf b) (v.place+1) 2) (Br.le (BM.bytesOf b) (v.place+3) 2):=by simp only[Br.layerOf,c]
       refine⟨p,v,b,bv,z,Hs,s,rfl,W3,B3,hw,c,?_⟩;walk_at"1";have et:Br.toldAt Hs s (BM.bytesOf b) z v.place=(Br.meant Hs s z.w (Br.le (BM.bytesOf b) (v.place+1) 2) (Br.le (BM.bytesOf b) (v.place+3) 2)).map fun (N:Br.Net)=>⟨v.place,Br.kindAt (BM.bytesOf b) v.place,z,.hook (Br.le (BM.bytesOf b) (v.place+1) 2) (Br.le (BM.bytesOf b) (v.place+3) 2),N.work,N.need⟩:=by
        unfold Br.toldAt;rw[el]
       cases em:Br.meant Hs s z.w (Br.le (BM.bytesOf b) (v.place+1) 2) (Br.le (BM.bytesOf b) (v.place+3) 2) with
       | none=>
        rw[em] at et;have et':Br.toldAt Hs s (BM.bytesOf b) z v.place=none:=et;rw[et'] at q;exact(if_pos rfl).mpr (q H' sm3)
       | some N=>
        rw[em] at et;exact(if_neg (fun h=>Bool.noConfusion (show true=false from h))).mpr ⟨_,et⟩
      ·have hnh:=wU (w:=z.w) c;unfold Br.toldAt
       cases el:Br.layerOf (BM.bytesOf b) z.w v.place with
       | hook h m=>
        rw[el] at hnh;cases hnh
       | _=>exact⟨_,rfl⟩
     ·rintro σ' H2 ⟨rfl,rfl,t,ht⟩;rw[ht] at q;dsimp only at q;walk_at"1";refine aK (BM.gH ht) fun _ _ hz hl _ _=>?_;walk_at"1";refine⟨p,v,b,bv,z,Hs,s,t,rfl,W3,B3,hw,ht,by rw[hl];simpa using c2,?_⟩;walk_at"1";refine cZ (fun c=>?_) (fun c=>?_)
      ·have:=aFf c;rw[if_pos (by unfold Br.WORK;omega)] at q;exact q H2 sm3
      ·have:¬((4096:Int)<(v.dn:Nat)+(t.cost:Nat)):=fun z=>c (aFc z);rw[if_neg (by unfold Br.WORK;omega)] at q;walk_at"1";exact q H2 sm3
end
def aEI(g:TG)(tt:TT)(te:TE)(vs:List Nat)(σ:L2.St)(Q:VK)(J:It)(H1:Hp):Prop:=∀ D,H1 D=none→∃ W:Nat→Nat→Hp→Prop,(∃ m,W 0 m (upd H1 D (.lst [])))∧∀ i m H,W i m H →
 (J.stop i H∧Q (.ref D) H)∨(J.go i H∧∃ Nx:Hp→Prop,(∀ H',Nx H'→∃ m',m'<m∧W (i+1) m' H')∧∀ x H',J.UL i H x H'→g x (wipe σ vs) H' fun σ2 H2=>wipe σ2 vs=wipe σ vs∧tt σ2 H2 fun b H3=>
  if b=true then te σ2 H3 fun y H4=>∃ acc,H4 D=some (.lst acc)∧acc.length<sizeLine∧Nx (upd H4 D (.lst (acc++[y]))) else Nx H3)
theorem NZ(wi:TI)(g:TG)(tt:TT)(te:TE)(vs:List Nat)(σ:L2.St)(H:Hp)(Q:VK):tLc wi g tt te vs σ H Q=wi σ H fun J H1=>aEI g tt te vs σ Q J H1:=rfl
def aDi(g:TG)(tb:TS)(D:Ends)(σ:L2.St)(J:It)(H1:Hp):Prop:=∃ W:Nat→Nat→L2.St→Hp→Prop,(∃ m,W 0 m σ H1)∧∀ i m σ H,W i m σ H →
 (J.stop i H∧D.nx σ H)∨(J.go i H∧∃ N:L2.St→Hp→Prop,(∀ σ' H',N σ' H'→∃ m',m'<m∧W (i+1) m' σ' H')∧∀ x H',J.UL i H x H'→g x σ H' fun σ2 H2=>tb {D with nx:=N,ct:=N,bk:=D.nx} σ2 H2)
theorem HY(wi:TI)(g:TG)(tb:TS)(D:Ends)(σ:L2.St)(H:Hp):aCg wi g tb D σ H=wi σ H fun J H1=>aDi g tb D σ J H1:=rfl
local macro_rules | `(tactic| walk_at"1")=>sm true (ZZ) (P2++mV++mL++lK++eS++eM)
abbrev q0:Stmt:=top 48
theorem iI:bJ ["walk","layer","offset"] ["walk"] (bC q0):=bV (by kernel_rfl)
abbrev rA:Stmt:=top 49
theorem eH:bJ ["walk","m","woven","place","column"] ["walk"] (bC rA):=bV (by kernel_rfl)
abbrev qZ:Stmt:=top 50
theorem fX:bJ ["walk","m","first","j"] ["walk"] (bC qZ):=bV (by kernel_rfl)
theorem Q5{X:Cx}{s:Shared}{H:Hp}{scope:Scope}{cenv:Env}{fp:List Addr}{e:Expr}{f:Str}{ta:TE}{pos:Pos}(he:PE (X.blk s H scope cenv fp) e ta)(hb:attributeBase e f (X.blk s H scope cenv fp).env (eval e (X.blk s H scope cenv fp).env)=eval e (X.blk s H scope cenv fp).env):
  PE (X.blk s H scope cenv fp) (.Attribute e f pos) (U5 X.K ta f):=bB he hb
theorem TF{lo c:Int}{n:Nat}{g:TG}{tt:TT}{te:TE}{vs:List Nat}{σ:L2.St}{H1:Hp}{D:Addr}{Qd:Hp→Prop}(Pv:Nat→Hp→Prop)(h0:Pv 0 (upd H1 D (.lst [])))
  (hs:∀ i H,i<n→Pv i H→g (.int (lo+(i:Nat)*c)) (wipe σ vs) H fun σ2 H2=>wipe σ2 vs=wipe σ vs∧tt σ2 H2 fun b H3=>
   if b=true then te σ2 H3 fun y H4=>∃ acc,H4 D=some (.lst acc)∧acc.length<sizeLine∧Pv (i+1) (upd H4 D (.lst (acc++[y]))) else Pv (i+1) H3) (hd:∀ H,Pv n H→Qd H):
  ∃ W:Nat→Nat→Hp→Prop,(∃ m,W 0 m (upd H1 D (.lst [])))∧∀ i m H,W i m H →
   ((Itc lo c n).stop i H∧Qd H)∨((Itc lo c n).go i H∧∃ Nx:Hp→Prop,(∀ H',Nx H'→∃ m',m'<m∧W (i+1) m' H')∧∀ x H',(Itc lo c n).UL i H x H'→g x (wipe σ vs) H' fun σ2 H2=>wipe σ2 vs=wipe σ vs∧tt σ2 H2 fun b H3=>
    if b=true then te σ2 H3 fun y H4=>∃ acc,H4 D=some (.lst acc)∧acc.length<sizeLine∧Nx (upd H4 D (.lst (acc++[y]))) else Nx H3):=by
 refine⟨fun i m H=>m=n-i∧i≤n∧Pv i H,⟨n,by simp,aFx _,h0⟩,?_⟩;rintro i m H ⟨rfl,hi,p⟩;by_cases hlt:i<n
 ·refine .inr ⟨hlt,Pv (i+1),fun H' p'=>⟨n-(i+1),by lia,rfl,hlt,p'⟩,fun x H' y=>?_⟩;obtain⟨e,y⟩:=y;subst e y;exact hs i _ hlt p
 ·have e:i=n:=by lia
  subst e;exact .inl ⟨aFi _,hd H p⟩
def eW:Br.Layer→List Nat
 | .dense m _ _=>[m]
 | .scale s=>[s]
 | .shift s=>[s]
 | .hook h m=>[h,m]
 | .slice f m=>[f,m]
 | .loop r=>[r]
 | _=>[]
def sP:Br.Layer→List Nat
 | .dense _ _ c=>c
 | _=>[]
def column(k:Nat)(wv:List Nat)(j:Nat):List Nat:=(List.range k).map fun r=>wv.getD (Br.place k r j) 0
theorem RB{b:List Nat}(h:∀ x∈b,x<256)(p w n:Nat):Br.many (BM.bytesOf b) p w n=(List.range n).map fun i=>Br.le (BM.bytesOf b) (p+w*i) w:=by
 unfold Br.many;rw[BM.RC h];refine aFE fun i _=>?_;rw[BM.le_eq h]
theorem WF{b:List Nat}(h:∀ x∈b,x<256){i:Nat}(hi:i+3<b.length):Br.le (BM.bytesOf b) i 4=Br.le (BM.bytesOf b) i 2+65536*Br.le (BM.bytesOf b) (i+2) 2:=by
 rw[BM.aDV h hi,BM.aBq h (by lia),BM.aBq h (by lia),show i+2+1=i+3 from rfl];lia
theorem O6{b:Br.Bytes}{w p:Nat}(h15:Br.kindAt b p≤15)(h14:Br.kindAt b p≠14):eW (Br.layerOf b w p)=(List.range (x9 (Br.kindAt b p) / 2)).map fun i=>Br.le b (p+(2*i+1)) 2:=by
 generalize hk:Br.kindAt b p=k at h15 h14;have hk':k=0∨k=1∨k=2∨k=3∨k=4∨k=5∨k=6∨k=7∨k=8∨k=9∨k=10∨k=11∨k=12∨k=13∨k=15:=by lia
 rcases hk' with rfl | rfl | rfl | rfl | rfl | rfl | rfl | rfl | rfl | rfl | rfl | rfl | rfl | rfl | rfl <;> simp only[Br.layerOf,hk] <;> rfl
inductive kW(C:Addr)(vs:List V)(H:Hp)(Q:VK)(E:XK):Prop
 | mk (p:Addr) (v:WV) (b:List Nat) (bv:List V) (z:Br.Spot) (_:vs=[.ref p]) (_:lM C H p v b bv z) (_:sD b z v.place) (_:Br.kindAt (BM.bytesOf b) v.place≤15) (_:∀ H' q,Same H H'→H q=none→H' q=some (.lst (nums (eW (Br.layerOf (BM.bytesOf b) z.w v.place))))→Q (.ref q) H'):kW C vs H Q E
def vL(H:Hp)(k m:Nat)(wv:List Nat)(cols:List V):Prop:=cols.length=m∧∀ j,j<m→∃ a,cols[j]?=some (.ref a)∧H a=some (.lst (nums (column k wv j)))
def tG(H H':Hp):Hp:=fun b=>if H b=none then H' b else none
theorem pR{H H':Hp}{b:Addr}{o:HO}(h:H b=none)(e:H' b=some o):tG H H' b=some o:=by
 unfold tG;rw[if_pos h];exact e
theorem pQ{H H':Hp}{b:Addr}{o:HO}(e:tG H H' b=some o):H b=none∧H' b=some o:=by
 unfold tG at e
 split at e
 ·exact⟨by assumption,e⟩
 ·cases e
inductive kY(C:Addr)(vs:List V)(H:Hp)(Q:VK)(E:XK):Prop
 | mk (p:Addr) (v:WV) (b:List Nat) (bv:List V) (z:Br.Spot) (m:Nat) (wv c:List Nat) (_:vs=[.ref p]) (_:lM C H p v b bv z) (_:sD b z v.place) (_:Br.kindAt (BM.bytesOf b) v.place=1) (_:Br.layerOf (BM.bytesOf b) z.w v.place= .dense m wv c) (_:Br.sizeOk m=true) (_:∀ H' q cols,Same H H'→H q=none→H' q=some (.lst cols)→vL (tG H H') z.w m wv cols→Q (.ref q) H'):kY C vs H Q E
inductive kU(C:Addr)(vs:List V)(H:Hp)(Q:VK)(E:XK):Prop
 | mk (p:Addr) (v:WV) (b:List Nat) (bv:List V) (z:Br.Spot) (m:Nat) (wv c:List Nat) (_:vs=[.ref p]) (_:lM C H p v b bv z) (_:sD b z v.place) (_:Br.kindAt (BM.bytesOf b) v.place=1) (_:Br.layerOf (BM.bytesOf b) z.w v.place= .dense m wv c) (_:Br.sizeOk m=true) (_:∀ H' q,Same H H'→H q=none→H' q=some (.lst (nums c))→Q (.ref q) H'):kU C vs H Q E
theorem AK{b:List Nat}{z:Br.Spot}{p m:Nat}{wv c:List Nat}(hk:Br.kindAt (BM.bytesOf b) p=1)(hl:Br.layerOf (BM.bytesOf b) z.w p= .dense m wv c):m=Br.le (BM.bytesOf b) (p+1) 2∧wv=Br.many (BM.bytesOf b) (p+3) 2 (Br.woven z.w m)∧c=Br.many (BM.bytesOf b) (p+3+2*Br.woven z.w m) 4 m:=by
 simp only[Br.layerOf,hk] at hl;cases hl;exact⟨rfl,rfl,rfl⟩
theorem AJ{b:List Nat}{z:Br.Spot}{p m:Nat}(hw:sD b z p)(hk:Br.kindAt (BM.bytesOf b) p=1)(em:m=Br.le (BM.bytesOf b) (p+1) 2)(hs:Br.sizeOk m=true):p+3+2*Br.woven z.w m+4*m≤b.length:=by
 have h:=hw.2;have xZ:=BM.dY b;rw[fP,hk,←em] at h;have h3:p+3≤b.length:=by
  split at h
  ·lia
  ·rw[show x9 1=2 from rfl] at h;lia
 rw[if_pos ⟨rfl,by lia,hs⟩] at h;lia
section
variable{P:Program}{w:World}{K:W.Frag}{mg:Str→Option Value}{base:Heap}{C:Addr}
theorem rg2(n:Nat)(h:n≤1000):RgC 0 ((2*n:Nat):Int) 2 n:=by
 refine⟨by decide,by decide,?_,?_⟩
 ·unfold Builtin.Range.small;have fits:∀ z:Int, -1000000≤z→z≤1000000→Builtin.Range.rangeFitsLong z=true:=fun z h1 h2=>by
   unfold Builtin.Range.rangeFitsLong;simp only[aFg,decide_eq_true_eq];lia
  have e:Builtin.Range.rangeSize 0 ((2*n:Nat):Int) 2=(n:Nat):=by
   unfold Builtin.Range.rangeSize;rw[if_pos (by decide)]
   split <;> lia
  rw[e,fits _ (by decide) (by decide),fits _ (by lia) (by lia),fits _ (by decide) (by decide),fits _ (by lia) (by lia),if_pos (by decide),fits _ (by lia) (by lia)];simp
 ·unfold Builtin.Range.rangeSize;rw[if_pos (by decide)]
  split <;> lia
theorem AX(D:Def K mg "told_numbers" q0 ["walk"])(T:sE K mg)(TW:hU K C)(cR:cV P w K mg base C "layer" ["self"] 1 (fF C))(dX:cV P w K mg base C "told" ["self","offset"] 2 (j6 C)):
  Own P w K mg base "told_numbers" ["walk"] 3 (kW C):=by
 refine D.own iI (fun vs H Q E h=>?_) (fun f cdv A outer s H vs Q E hr h=>?_)
 ·obtain⟨p,v,b,bv,z,rfl,_⟩:=h;rfl
 ·obtain⟨p,v,b,bv,z,rfl,W,hw,h15,q⟩:=h;refine aA T.BEHIND fun cB ET KB=>?_;have F:=W.rd TW;have MO:=hw.2;rw[fP] at MO;refine⟨_,(aZ (bK (i:=1) iI.nd rfl (Or.inl rfl) (cJ cR hr (by decide) (pv 0)))
   (aZ (cE (bU (cY (pv 1) a8)) (bA (bI (cG (aY (cC bZ (bB (pv 0) rfl) (bH bX (bB (pv 0) rfl) a8) (fun _ _=>rfl)) a6)))) bT)
   (bA (bI (AC (own:=[("offset",2)]) rfl iI.nd (yN rfl T.range (aY a8 (aY (LL (GS rfl ET) (pv 1) a8 ⟨rfl,rfl,rfl,rfl⟩) (aY a8 a6)))) (oB (by kernel_rfl)) (fun _ _ _ _ _=>dM (i:=2) iI.nd rfl (Or.inl rfl)) (fun _ _ _ _ _=>kH) (fun _ _ _ _ _=>(oY dX hr (by decide) (pv 0) (aY (bH bX (pv 2) a8) a6)))))))),?_⟩
  walk_at"1";refine⟨p,v,b,bv,z,rfl,W,hw.1,?_⟩;walk_at"1";refine AH (n:=14) (fun c=>?_) (fun c14=>?_)
  ·rw[c,if_neg (fun z=>absurd z.1 (by decide)),show x9 14=1 from rfl] at MO;have hp1:v.place+1<b.length:=by lia
   refine⟨_,cT.of W.net,_,cW (i:=v.place+1) hp1 (by lia),by decide,fun r hr1=>?_⟩;refine q _ r (a9 hr1) hr1 ?_;rw[a7];have e:eW (Br.layerOf (BM.bytesOf b) z.w v.place)=[b.getD (v.place+1) 0]:=by
    simp only[Br.layerOf,c];show [Br.le (BM.bytesOf b) (v.place+1) 1]=_;rw[BM.ZI W.bytes hp1]
   rw[e];rfl
  ·rw[O6 h15 c14] at q;generalize hk:Br.kindAt (BM.bytesOf b) v.place=k at q MO h15 c14;have hk2:x9 k=2*(x9 k / 2):=by
    unfold x9
    split <;> first | rfl | (split <;> first | rfl | (split <;> first | rfl | (split <;> first | rfl | (split <;> first | rfl | (split <;> first | rfl | lia)))))
   have hle:v.place+1+2*(x9 k / 2)≤b.length:=by
    rw[←hk2]
    split at MO
    ·rename_i h1;rw[h1.1,show x9 1=2 from rfl];lia
    ·exact MO
   have hsm:x9 k / 2≤2:=by
    unfold x9
    split <;> first | decide | (split <;> first | decide | (split <;> first | decide | (split <;> first | decide | (split <;> first | decide | (split <;> first | decide | lia)))))
   generalize hn:x9 k / 2=n at q hle hsm hk2;walk_at"1";refine⟨_,KB,?_⟩;rw[RZ,hk2];refine⟨_,_,_,⟨rfl,rfl,rfl⟩,n,rg2 n (by lia),fun D hD=>TF (lo:=0) (c:=2) (n:=n) (fun i H'=>Same H H'∧H' D=some (.lst (nums ((List.range i).map fun i=>Br.le (BM.bytesOf b) (v.place+(2*i+1)) 2)))) ⟨a9 hD,a7⟩ ?_ ?_⟩
   ·rintro i H' hi ⟨sm,h2⟩;have W2:=W.same sm;have F:=W2.rd TW;walk_at"1";refine⟨p,v,b,bv,z,2*i+1,by rw[show (0:Int)+((i:Nat):Int)*2+1=((2*i+1:Nat):Int) from by lia],W2,by lia,_,h2,?_,fY sm hD _,?_⟩
    ·rw[bM,aFd,aFy,sizeLine_eq];lia
    ·rw[a7,jX fun i=>Br.le (BM.bytesOf b) (v.place+(2*i+1)) 2]
   ·rintro H' ⟨sm,h2⟩;exact q H' D sm hD h2
theorem AY(D:Def K mg "told_columns" rA ["walk"])(T:sE K mg)(TW:hU K C)(dX:cV P w K mg base C "told" ["self","offset"] 2 (j6 C))
  (cK:Own P w K mg base "woven_size" ["k","n"] 2 eJ) (fQ:Own P w K mg base "woven_column" ["k","woven","column"] 3 (iH K)):Own P w K mg base "told_columns" ["walk"] 4 (kY C):=by
 refine D.own eH (fun vs H Q E h=>?_) (fun f cdv A outer s H vs Q E hr h=>?_)
 ·obtain⟨p,v,b,bv,z,m,wv,c,rfl,_⟩:=h;rfl
 ·obtain⟨p,v,b,bv,z,m,wv,c,rfl,W,hw,hk,hl,hs,q⟩:=h;have F:=W.rd TW;refine aF (AK hk hl) fun em ev ec=>?_;have hwh:=AJ hw hk em hs;have hm:=size_le hs;have hzw:=W.spot.2.1;have aEc:=W.spot.1;have hwv:Br.woven z.w m≤4096:=BM.oG hzw hm.2;rw[RB W.bytes] at ev;refine⟨_,(aZ (bK (i:=1) eH.nd rfl (by first | exact Or.inl rfl | exact Or.inr rfl) (oY dX hr (by decide) (pv 0) (aY a8 a6)))
   (aZ (bK (i:=2) eH.nd rfl (by first | exact Or.inl rfl | exact Or.inr rfl) (AC (own:=[("place",3)]) rfl eH.nd (eF rfl T.range (aY (bN cK hr (by decide) rfl (aY (bB (pv 0) rfl) (aY (pv 1) a6))) a6)) (oB (by kernel_rfl)) (fun _ _ _ _ _=>dM (i:=3) eH.nd rfl (Or.inl rfl)) (fun _ _ _ _ _=>kH) (fun _ _ _ _ _=>(oY dX hr (by decide) (pv 0) (aY (bH bX a8 (bH eC a8 (pv 3))) a6)))))
   (bA (bI (AC (own:=[("column",4)]) rfl eH.nd (eF rfl T.range (aY (pv 1) a6)) (oB (by kernel_rfl)) (fun _ _ _ _ _=>dM (i:=4) eH.nd rfl (Or.inl rfl)) (fun _ _ _ _ _=>kH) (fun _ _ _ _ _=>(bN fQ hr (by decide) rfl (aY (Q5 (pv 0) rfl) (aY (pv 2) (aY (pv 4) a6)))))))))),?_⟩
  walk_at"1";refine⟨p,v,b,bv,z,1,rfl,W,by lia,?_⟩;walk_at"1";rw[←em];walk_at"1";refine⟨v.w,m,rfl,by rw[W.w];exact hzw,hm.2,?_⟩;rw[W.w];walk_at"1";refine⟨by lia,by lia,fun D hD=>mJ (lo:=0) (n:=((Br.woven z.w m:Nat):Int).toNat) (fun i H'=>Same H H'∧H' D=some (.lst (nums ((List.range i).map fun i=>Br.le (BM.bytesOf b) (v.place+3+2*i) 2)))) ⟨a9 hD,a7⟩ ?_ ?_⟩
  ·rintro i H' hi ⟨sm,h2⟩;rw[aFl] at hi;have W2:=W.same sm;have F:=W2.rd TW;walk_at"1";refine⟨.inl ⟨by decide,by decide⟩,p,v,b,bv,z,3+2*i,by rw[show (3:Int)+2*(0+((i:Nat):Int))=((3+2*i:Nat):Int) from by lia],W2,by lia,_,h2,?_,fY sm hD _,?_⟩
   ·rw[bM,aFd,aFy,sizeLine_eq];lia
   ·rw[a7,←jX fun i=>Br.le (BM.bytesOf b) (v.place+3+2*i) 2,show v.place+(3+2*i)=v.place+3+2*i from by lia]
  ·rintro H1 ⟨sm,h2⟩;rw[aFl,←ev] at h2;have W1:=W.same sm;walk_at"1";refine⟨by lia,by lia,fun D2 hD2=>mJ (lo:=0) (n:=((m:Nat):Int).toNat) (fun i H'=>Same H1 H'∧∃ cols,H' D2=some (.lst cols)∧cols.length=i∧∀ j,j<i→∃ a,cols[j]?=some (.ref a)∧a≠D2∧H a=none∧H' a=some (.lst (nums (column z.w wv j)))) ⟨a9 hD2,[],a7,rfl,fun j hj=>absurd hj (by lia)⟩ ?_ ?_⟩
   ·rintro i H' hi ⟨tF,cols,h3,hc1,hc2⟩;rw[aFl] at hi;have W2:=W1.same tF;have F:=W2.rd TW;walk_at"1";refine⟨z.w,m,i,D,wv,by rw[W.w,Int.zero_add],cT.of (tF _ _ h2),aEc,hzw,hm.2,hi,by rw[ev,aFd,aFy],fun H3 qa sm3 hq0 hq=>⟨_,sm3 _ _ h3,?_,fY (tF.trans sm3) hD2 _,_,a7,?_,fun j hj=>?_⟩⟩
    ·rw[hc1,sizeLine_eq];lia
    ·rw[aFb,hc1];rfl
    ·by_cases c2:j<i
     ·refine aR (hc2 j c2) fun a ha hne hf hv=>?_;refine⟨a,by rw[aFK (by lia)];exact ha,hne,hf,?_⟩;rw[bF hne];exact sm3 _ _ hv
     ·have ej:j=i:=by lia
      subst ej;have hne:qa≠D2:=fun z'=>by rw[z',h3] at hq0;cases hq0
      refine⟨qa,by rw[aFu (by lia),hc1,Nat.sub_self];rfl,hne,(sm.trans tF).free hq0,?_⟩;rw[bF hne];exact hq
   ·rintro H' ⟨tF,cols,h3,hc1,hc2⟩;rw[aFl] at hc1 hc2;refine q H' D2 cols (sm.trans tF) (sm.free hD2) h3 ⟨hc1,fun j hj=>?_⟩;refine aR (hc2 j hj) fun a ha _ hf hv=>?_;exact⟨a,ha,pR hf hv⟩
theorem AW(D:Def K mg "told_singles" qZ ["walk"])(T:sE K mg)(TW:hU K C)(dX:cV P w K mg base C "told" ["self","offset"] 2 (j6 C))
  (cK:Own P w K mg base "woven_size" ["k","n"] 2 eJ):Own P w K mg base "told_singles" ["walk"] 3 (kU C):=by
 refine D.own fX (fun vs H Q E h=>?_) (fun f cdv A outer s H vs Q E hr h=>?_)
 ·obtain⟨p,v,b,bv,z,m,wv,c,rfl,_⟩:=h;rfl
 ·obtain⟨p,v,b,bv,z,m,wv,c,rfl,W,hw,hk,hl,hs,q⟩:=h;have F:=W.rd TW;refine aF (AK hk hl) fun em ev ec=>?_;have hwh:=AJ hw hk em hs;have hm:=size_le hs;have hzw:=W.spot.2.1;have hwv:Br.woven z.w m≤4096:=BM.oG hzw hm.2;rw[RB W.bytes] at ec;refine⟨_,(aZ (bK (i:=1) fX.nd rfl (by first | exact Or.inl rfl | exact Or.inr rfl) (oY dX hr (by decide) (pv 0) (aY a8 a6)))
   (aZ (bK (i:=2) fX.nd rfl (by first | exact Or.inl rfl | exact Or.inr rfl) (bH bX a8 (bH eC a8 (bN cK hr (by decide) rfl (aY (bB (pv 0) rfl) (aY (pv 1) a6))))))
   (bA (bI (AC (own:=[("j",3)]) rfl fX.nd (eF rfl T.range (aY (pv 1) a6)) (oB (by kernel_rfl)) (fun _ _ _ _ _=>dM (i:=3) fX.nd rfl (Or.inl rfl)) (fun _ _ _ _ _=>kH) (fun _ _ _ _ _=>(bH bX (oY dX hr (by decide) (pv 0) (aY (bH bX (pv 2) (bH eC a8 (pv 3))) a6)) (bH eC a8 (oY dX hr (by decide) (pv 0) (aY (bH bX (bH bX (pv 2) (bH eC a8 (pv 3))) a8) a6)))))))))),?_⟩
  walk_at"1";refine⟨p,v,b,bv,z,1,rfl,W,by lia,?_⟩;walk_at"1";rw[←em];walk_at"1";refine⟨v.w,m,rfl,by rw[W.w];exact hzw,hm.2,?_⟩;rw[W.w];walk_at"1";refine⟨.inl ⟨by decide,by decide⟩,?_⟩;generalize aEs:3+2*Br.woven z.w m=fst at hwh;walk_at"1";rw[show (3:Int)+2*((Br.woven z.w m:Nat):Int)=((fst:Nat):Int) from by lia];refine⟨by lia,by lia,fun D hD=>mJ (lo:=0) (n:=((m:Nat):Int).toNat) (fun i H'=>Same H H'∧H' D=some (.lst (nums ((List.range i).map fun i=>Br.le (BM.bytesOf b) (v.place+fst+4*i) 4)))) ⟨a9 hD,a7⟩ ?_ ?_⟩
  ·rintro i H' hi ⟨sm,h2⟩;rw[aFl] at hi;have W2:=W.same sm;have F:=W2.rd TW;walk_at"1";refine⟨.inl ⟨by decide,by decide⟩,p,v,b,bv,z,fst+4*i,by rw[show ((fst:Nat):Int)+4*(0+((i:Nat):Int))=((fst+4*i:Nat):Int) from by lia],W2,by lia,?_⟩;walk_at"1";refine⟨.inl ⟨by decide,by decide⟩,p,v,b,bv,z,fst+4*i+2,by rw[show ((fst:Nat):Int)+4*(0+((i:Nat):Int))+2=((fst+4*i+2:Nat):Int) from by lia],W2,by lia,?_⟩;walk_at"1";refine⟨.inl ⟨by decide,by decide⟩,_,h2,?_,fY sm hD _,?_⟩
   ·rw[bM,aFd,aFy,sizeLine_eq];lia
   ·rw[a7,←jX fun i=>Br.le (BM.bytesOf b) (v.place+fst+4*i) 4];rw[WF W.bytes (by lia)];rw[show v.place+(fst+4*i)=v.place+fst+4*i from by lia,show v.place+(fst+4*i+2)=v.place+fst+4*i+2 from by lia];rw[show (((Br.le (BM.bytesOf b) (v.place+fst+4*i) 2:Nat):Int)+65536*((Br.le (BM.bytesOf b) (v.place+fst+4*i+2) 2:Nat):Int))=((Br.le (BM.bytesOf b) (v.place+fst+4*i) 2+65536*Br.le (BM.bytesOf b) (v.place+fst+4*i+2) 2:Nat):Int) from by lia]
  ·rintro H' ⟨sm,h2⟩;rw[aFl] at h2;refine q H' D sm hD ?_;rw[h2,ec,←aEs];congr 3;refine aFE fun i _=>?_;rw[show v.place+(3+2*Br.woven z.w m)+4*i=v.place+3+2*Br.woven z.w m+4*i from by lia]
end
def Put(K:W.Frag)(f:Str)(x y:V)(H:Hp)(k:Hp→Prop):Prop:=∃ a C dx fs,x= .ref a∧H a=some (.ins C dx fs)∧Cls K C∧cS K C f∧fs.length<1000∧k (upd H a (.ins C dx (bG f y fs)))
theorem IL(K:W.Frag)(ta tv:TE)(f:Str)(D:Ends)(σ:L2.St)(H:Hp):YM K ta tv f D σ H=tv σ H fun y H1=>ta σ H1 fun x H2=>Put K f x y H2 fun H3=>D.nx σ H3:=rfl
theorem cO{K:W.Frag}{f:Str}{p C dx:Addr}{H:Hp}{fs:List (Str×V)}{y:V}{k:Hp→Prop}(hp:H p=some (.ins C dx fs))(c:Cls K C)(n:cS K C f)(l:fs.length<1000)(h:k (upd H p (.ins C dx (bG f y fs)))):Put K f (.ref p) y H k:=
 ⟨p,C,dx,fs,rfl,hp,c,n,l,h⟩
local macro_rules | `(tactic| walk_at"1")=>sm true (ZZ) (mV++mL++lK++eS++fO++eM)
abbrev oT:Stmt:=inClass (top 43) 0
theorem vW:bJ ["self","walk"] ["self","walk"] (bC oT):=bV (by kernel_rfl)
structure LV where
 (place byte wb wn ab:Nat) (numbers columns singles:Addr)
def LV.fs(v:LV):List (Str×V):=[("place",.int v.place),("byte",.int v.byte),("width_before",.int v.wb),("width_behind",.int v.wn),("aside_before",.int v.ab),("numbers",.ref v.numbers),("columns",.ref v.columns),("singles",.ref v.singles)]
theorem LV.xA(v:LV):v.fs.lookup ("place":Str)=some (.int v.place):=by kernel_rfl
theorem LV.aBs(v:LV):v.fs.lookup ("byte":Str)=some (.int v.byte):=by kernel_rfl
theorem LV.aDY(v:LV):v.fs.lookup ("width_before":Str)=some (.int v.wb):=by kernel_rfl
theorem LV.aDW(v:LV):v.fs.lookup ("width_behind":Str)=some (.int v.wn):=by kernel_rfl
theorem LV.aEa(v:LV):v.fs.lookup ("aside_before":Str)=some (.int v.ab):=by kernel_rfl
theorem LV.TJ(v:LV):v.fs.lookup ("numbers":Str)=some (.ref v.numbers):=by kernel_rfl
theorem LV.TM(v:LV):v.fs.lookup ("columns":Str)=some (.ref v.columns):=by kernel_rfl
theorem LV.TH(v:LV):v.fs.lookup ("singles":Str)=some (.ref v.singles):=by kernel_rfl
structure mW(K:W.Frag)(C:Addr):Prop where
 cl:Cls K C
 place:cS K C "place"
 byte:cS K C "byte"
 width_before:cS K C "width_before"
 width_behind:cS K C "width_behind"
 aside_before:cS K C "aside_before"
 numbers:cS K C "numbers"
 columns:cS K C "columns"
 singles:cS K C "singles"
structure aDd(K:W.Frag)(H:Hp)(p:Addr)(v:LV):Prop where
 place:∀ Q,tK K "place" (.ref p) H Q↔Q (.int v.place) H
 byte:∀ Q,tK K "byte" (.ref p) H Q↔Q (.int v.byte) H
 wb:∀ Q,tK K "width_before" (.ref p) H Q↔Q (.int v.wb) H
 wn:∀ Q,tK K "width_behind" (.ref p) H Q↔Q (.int v.wn) H
 ab:∀ Q,tK K "aside_before" (.ref p) H Q↔Q (.int v.ab) H
 numbers:∀ Q,tK K "numbers" (.ref p) H Q↔Q (.ref v.numbers) H
 columns:∀ Q,tK K "columns" (.ref p) H Q↔Q (.ref v.columns) H
 singles:∀ Q,tK K "singles" (.ref p) H Q↔Q (.ref v.singles) H
theorem iW{K:W.Frag}{C dx p:Addr}{H:Hp}{v:LV}(hp:H p=some (.ins C dx v.fs))(T:mW K C):aDd K H p v:=
 ⟨cQ hp T.cl T.place v.xA,cQ hp T.cl T.byte v.aBs,cQ hp T.cl T.width_before v.aDY,cQ hp T.cl T.width_behind v.aDW,cQ hp T.cl T.aside_before v.aEa,cQ hp T.cl T.numbers v.TJ,cQ hp T.cl T.columns v.TM,cQ hp T.cl T.singles v.TH⟩
structure jO(C:Addr)(H:Hp)(q:Addr)(place kind:Nat)(z:Br.Spot)(l:Br.Layer):Prop where
 at_:∃ dx u,H q=some (.ins C dx (LV.fs u))∧u.place=place∧u.byte=kind∧u.wb=z.w∧u.wn=(z.next l).w∧u.ab=z.aside.length∧H u.numbers=some (.lst (nums (eW l))) ∧
  (∃ cols,H u.columns=some (.lst cols)∧∀ m wv c,l= .dense m wv c→vL H z.w m wv cols)∧H u.singles=some (.lst (nums (sP l)))
theorem vL.keep{H H':Hp}{k m:Nat}{wv:List Nat}{cols:List V}(h:vL H k m wv cols)(e:∀ a l,H a=some (.lst l)→H' a=some (.lst l)):vL H' k m wv cols:=
 ⟨h.1,fun j hj=>let ⟨a,h1,h2⟩:=h.2 j hj;⟨a,h1,e _ _ h2⟩⟩
theorem jO.same{C:Addr}{H H':Hp}{q:Addr}{place kind:Nat}{z:Br.Spot}{l:Br.Layer}(h:jO C H q place kind z l)(sm:Same H H'):jO C H' q place kind z l:=by
 (refine aI h.at_ fun dx u h0 h1 h2 h3 h4 bO=>?_;refine aG bO fun h5 h6 cA h9=>?_;refine aA cA fun cols h7 h8=>?_);exact⟨dx,u,sm _ _ h0,h1,h2,h3,h4,h5,sm _ _ h6,⟨cols,sm _ _ h7,fun m wv c e=>(h8 m wv c e).keep fun a l x=>sm _ _ x⟩,sm _ _ h9⟩
theorem hW.but{q C' d:Addr}{fs:List (Str×V)}{H H':Hp}(b:But q H H')(hq:H q=some (.ins C' d fs)):∀ {xs:List V} {es:List (Nat×Nat×List Nat)},hW H xs es→hW H' xs es
 | [],[],_=>trivial
 | x::r,e::es,⟨⟨t,l,h1,h2,h3⟩,h⟩=>⟨⟨t,l,h1,b _ _ h2 (fun z=>by rw[z,hq] at h2;cases h2),b _ _ h3 (fun z=>by rw[z,hq] at h3;cases h3)⟩,hW.but b hq h⟩
 | [],_::_,h=>h.elim
 | _::_,[],h=>h.elim
theorem lM.but{C q C' d:Addr}{fs:List (Str×V)}{H H':Hp}{p:Addr}{v:WV}{b:List Nat}{bv:List V}{z:Br.Spot}(W:lM C H p v b bv z)(bt:But q H H')(hq:H q=some (.ins C' d fs))(ne:p≠q):lM C H' p v b bv z:=by
 obtain⟨⟨dx,h⟩,h1,h2,h3,⟨ls,h4,h5⟩,r1,r2,r3,r4,r5,r6⟩:=W;have nl:∀ a l,H a=some (.lst l)→a≠q:=fun a l e z=>by rw[z,hq] at e;cases e
 exact⟨⟨dx,bt _ _ h ne⟩,bt _ _ h1 (nl _ _ h1),bt _ _ h2 (nl _ _ h2),bt _ _ h3 (nl _ _ h3),⟨ls,bt _ _ h4 (nl _ _ h4),h5.but bt hq⟩,r1,r2,r3,r4,r5,r6⟩
def V8(H:Hp)(q:Addr)(H':Hp):Hp:=fun b=>if b=q∨H b=none then H' b else none
theorem wX{H H':Hp}{q b:Addr}{o:HO}(h:b=q∨H b=none)(e:H' b=some o):V8 H q H' b=some o:=by
 unfold V8;rw[if_pos h];exact e
theorem Y4{H H':Hp}{q b:Addr}{o:HO}(e:V8 H q H' b=some o):(b=q∨H b=none)∧H' b=some o:=by
 unfold V8 at e
 split at e
 ·exact⟨by assumption,e⟩
 ·cases e
inductive nU(C CL:Addr)(vs:List V)(H:Hp)(Q:VK)(E:XK):Prop
 | mk (q dx p:Addr) (v:WV) (b:List Nat) (bv:List V) (z:Br.Spot) (_:vs=[.ref q,.ref p]) (_:H q=some (.ins CL dx [])) (_:lM C H p v b bv z) (_:sD b z v.place) (_:Br.kindAt (BM.bytesOf b) v.place≤15) (_:(Br.kindAt (BM.bytesOf b) v.place=11∨Br.kindAt (BM.bytesOf b) v.place=12→z.aside≠[])) (_:(∀ m wv c,Br.layerOf (BM.bytesOf b) z.w v.place= .dense m wv c→Br.sizeOk m=true)) (_:∀ H',But q H H'→jO CL (V8 H q H') q v.place (Br.kindAt (BM.bytesOf b) v.place) z (Br.layerOf (BM.bytesOf b) z.w v.place)→Q .non H'):nU C CL vs H Q E
section
variable{P:Program}{w:World}{K:W.Frag}{mg:Str→Option Value}{base:Heap}{C CL:Addr}
theorem FK(D:pV K CL "__init__" "Layer.__init__" oT ["self","walk"])(T:sE K mg)(TW:hU K C)(TL:mW K CL)(cR:cV P w K mg base C "layer" ["self"] 1 (fF C))(dH:Own P w K mg base "new_width" ["walk"] 3 (gS C))
  (mS:Own P w K mg base "told_numbers" ["walk"] 3 (kW C)) (mT:Own P w K mg base "told_columns" ["walk"] 4 (kY C)) (mR:Own P w K mg base "told_singles" ["walk"] 3 (kU C)):
  cV P w K mg base CL "__init__" ["self","walk"] 5 (nU C CL):=by
 refine D.own TL.cl vW (fun vs H Q E h=>?_) (fun f cdv A outer s H vs Q E hr h=>?_)
 ·obtain⟨q,dx,p,v,b,bv,z,rfl,_⟩:=h;rfl
 ·obtain⟨qa,dx,p,v,b,bv,z,rfl,hq0,W,hw,h15,hne,hden,q⟩:=h;have npq:p≠qa:=fun e=>by
   obtain⟨d,h⟩:=W.at_;rw[e,hq0] at h;cases h
  have upW:∀ (H1:Hp) (fs:List (Str×V)),But qa H H1→lM C (upd H1 qa (.ins CL dx fs)) p v b bv z:=fun H1 fs bt=>W.but (bt.trans dW) hq0 npq;have F:=W.rd TW;refine⟨_,(aZ (cP (pv 0) (bB (pv 1) rfl) rfl)
   (aZ (cP (pv 0) (cJ cR hr (by decide) (pv 1)) rfl)
   (aZ (cP (pv 0) (bB (pv 1) rfl) rfl)
   (aZ (cP (pv 0) (bN dH hr (by decide) rfl (aY (pv 1) a6)) rfl)
   (aZ (cP (pv 0) (bY bQ (by rfl) T.len PySem.boot_len (aY (bB (pv 1) rfl) a6)) rfl)
   (aZ (cP (pv 0) (bN mS hr (by decide) rfl (aY (pv 1) a6)) rfl)
   (aZ (cP (pv 0) (iE (bU (cY (bB (pv 0) rfl) a8)) (bN mT hr (by decide) rfl (aY (pv 1) a6)) (cG a6)) rfl)
   (bA (cP (pv 0) (iE (bU (cY (bB (pv 0) rfl) a8)) (bN mR hr (by decide) rfl (aY (pv 1) a6)) (cG a6)) rfl))))))))),?_⟩
  walk_at"1";refine cO hq0 TL.cl TL.place (by decide) ?_;have W1:=upW H (bG "place" (V.int (v.place:Nat)) []) (But.refl _ _);have F:=W1.rd TW;walk_at"1";refine⟨p,v,b,bv,z,rfl,W1,hw.1,?_⟩;walk_at"1";refine cO a7 TL.cl TL.byte (by show 1<1000;decide) ?_;walk_at"1";rw[dD];have W1:=upW H (bG "byte" (V.int (Br.kindAt (BM.bytesOf b) v.place:Nat)) (bG "place" (V.int (v.place:Nat)) [])) (But.refl _ _);have F:=W1.rd TW;walk_at"1";refine cO a7 TL.cl TL.width_before (by show 2<1000;decide) ?_;walk_at"1";rw[dD];have W1:=upW H (bG "width_before" (V.int (v.w:Nat)) (bG "byte" (V.int (Br.kindAt (BM.bytesOf b) v.place:Nat)) (bG "place" (V.int (v.place:Nat)) []))) (But.refl _ _);refine⟨p,v,b,bv,z,rfl,W1,hw,hne,?_⟩;walk_at"1";refine cO a7 TL.cl TL.width_behind (by show 3<1000;decide) ?_;walk_at"1";rw[dD];have W1:=upW H (bG "width_behind" (V.int ((z.next (Br.layerOf (BM.bytesOf b) z.w v.place)).w:Nat)) (bG "width_before" (V.int (v.w:Nat)) (bG "byte" (V.int (Br.kindAt (BM.bytesOf b) v.place:Nat)) (bG "place" (V.int (v.place:Nat)) [])))) (But.refl _ _);have F:=W1.rd TW;walk_at"1";refine⟨_,.inl (cT.of W1.zG),?_⟩;rw[bM,aFj];refine cO a7 TL.cl TL.aside_before (by show 4<1000;decide) ?_;walk_at"1";rw[dD];have W1:=upW H (bG "aside_before" (V.int (z.aside.length:Nat)) (bG "width_behind" (V.int ((z.next (Br.layerOf (BM.bytesOf b) z.w v.place)).w:Nat)) (bG "width_before" (V.int (v.w:Nat)) (bG "byte" (V.int (Br.kindAt (BM.bytesOf b) v.place:Nat)) (bG "place" (V.int (v.place:Nat)) []))))) (But.refl _ _);have bt5:But qa H (upd H qa (.ins CL dx (bG "aside_before" (V.int (z.aside.length:Nat)) (bG "width_behind" (V.int ((z.next (Br.layerOf (BM.bytesOf b) z.w v.place)).w:Nat)) (bG "width_before" (V.int (v.w:Nat)) (bG "byte" (V.int (Br.kindAt (BM.bytesOf b) v.place:Nat)) (bG "place" (V.int (v.place:Nat)) []))))))):=dW;refine⟨p,v,b,bv,z,rfl,W1,hw,h15,fun H6 an sm6 an0 hn6=>?_⟩;have nan:an≠qa:=fun e=>by rw[e,a7] at an0;cases an0
  have aEE:H an=none:=by rw[bF nan] at an0;exact an0
  have q6:=sm6 _ _ (a7 (H:=H) (a:=qa) (o:= .ins CL dx (bG "aside_before" (V.int (z.aside.length:Nat)) (bG "width_behind" (V.int ((z.next (Br.layerOf (BM.bytesOf b) z.w v.place)).w:Nat)) (bG "width_before" (V.int (v.w:Nat)) (bG "byte" (V.int (Br.kindAt (BM.bytesOf b) v.place:Nat)) (bG "place" (V.int (v.place:Nat)) [])))))));refine cO q6 TL.cl TL.numbers (by show 5<1000;decide) ?_;have bt6:But qa H H6:=bt5.trans (.of sm6);have W1:=upW H6 (bG "numbers" (V.ref an) (bG "aside_before" (V.int (z.aside.length:Nat)) (bG "width_behind" (V.int ((z.next (Br.layerOf (BM.bytesOf b) z.w v.place)).w:Nat)) (bG "width_before" (V.int (v.w:Nat)) (bG "byte" (V.int (Br.kindAt (BM.bytesOf b) v.place:Nat)) (bG "place" (V.int (v.place:Nat)) [])))))) bt6;have aCH:(upd H6 qa (.ins CL dx (bG "numbers" (V.ref an) (bG "aside_before" (V.int (z.aside.length:Nat)) (bG "width_behind" (V.int ((z.next (Br.layerOf (BM.bytesOf b) z.w v.place)).w:Nat)) (bG "width_before" (V.int (v.w:Nat)) (bG "byte" (V.int (Br.kindAt (BM.bytesOf b) v.place:Nat)) (bG "place" (V.int (v.place:Nat)) [])))))))) an=some (.lst (nums (eW (Br.layerOf (BM.bytesOf b) z.w v.place)))):=by
   rw[bF nan];exact hn6
  have xE:∀ (H':Hp) (fs:List (Str×V)),H' qa=some (.ins CL dx fs)→fs.lookup ("byte":Str)=some (V.int (Br.kindAt (BM.bytesOf b) v.place:Nat))→∀ Q,tK K "byte" (.ref qa) H' Q↔Q (V.int (Br.kindAt (BM.bytesOf b) v.place:Nat)) H':=fun H' fs h l=>cQ h TL.cl TL.byte l;have Fb:=xE (upd H6 qa (.ins CL dx (bG "numbers" (V.ref an) (bG "aside_before" (V.int (z.aside.length:Nat)) (bG "width_behind" (V.int ((z.next (Br.layerOf (BM.bytesOf b) z.w v.place)).w:Nat)) (bG "width_before" (V.int (v.w:Nat)) (bG "byte" (V.int (Br.kindAt (BM.bytesOf b) v.place:Nat)) (bG "place" (V.int (v.place:Nat)) [])))))))) (bG "numbers" (V.ref an) (bG "aside_before" (V.int (z.aside.length:Nat)) (bG "width_behind" (V.int ((z.next (Br.layerOf (BM.bytesOf b) z.w v.place)).w:Nat)) (bG "width_before" (V.int (v.w:Nat)) (bG "byte" (V.int (Br.kindAt (BM.bytesOf b) v.place:Nat)) (bG "place" (V.int (v.place:Nat)) [])))))) a7 (by kernel_rfl);walk_at"1";simp only[Fb];walk_at"1";have last:∀ (H7:Hp) (ac:Addr) (cols:List V),But qa H H7→H7 qa=some (.ins CL dx (bG "columns" (V.ref ac) (bG "numbers" (V.ref an) (bG "aside_before" (V.int (z.aside.length:Nat)) (bG "width_behind" (V.int ((z.next (Br.layerOf (BM.bytesOf b) z.w v.place)).w:Nat)) (bG "width_before" (V.int (v.w:Nat)) (bG "byte" (V.int (Br.kindAt (BM.bytesOf b) v.place:Nat)) (bG "place" (V.int (v.place:Nat)) []))))))))→ac≠qa→H ac=none→H7 ac=some (.lst cols)→(∀ m wv c,Br.layerOf (BM.bytesOf b) z.w v.place= .dense m wv c→vL (tG H H7) z.w m wv cols)→H7 an=some (.lst (nums (eW (Br.layerOf (BM.bytesOf b) z.w v.place)))) →
    ∀ (as:Addr),as≠qa→H as=none→H7 as=some (.lst (nums (sP (Br.layerOf (BM.bytesOf b) z.w v.place))))→Q .non (upd H7 qa (.ins CL dx (bG "singles" (V.ref as) (bG "columns" (V.ref ac) (bG "numbers" (V.ref an) (bG "aside_before" (V.int (z.aside.length:Nat)) (bG "width_behind" (V.int ((z.next (Br.layerOf (BM.bytesOf b) z.w v.place)).w:Nat)) (bG "width_before" (V.int (v.w:Nat)) (bG "byte" (V.int (Br.kindAt (BM.bytesOf b) v.place:Nat)) (bG "place" (V.int (v.place:Nat)) [])))))))))):=by
   intro H7 ac cols b7 h7 WB XQ hac WW hn7 as nas XN has;refine q _ (b7.trans dW) ⟨dx,⟨v.place,Br.kindAt (BM.bytesOf b) v.place,v.w,(z.next (Br.layerOf (BM.bytesOf b) z.w v.place)).w,z.aside.length,an,ac,as⟩,?_,rfl,rfl,W.w,rfl,rfl,?_,⟨cols,?_,fun m wv c e=>(WW m wv c e).keep fun a l x=>?_⟩,?_⟩
   ·refine wX (.inl rfl) ?_;rw[a7];congr 2
   ·refine wX (.inr aEE) ?_;rw[bF nan];exact hn7
   ·refine wX (.inr XQ) ?_;rw[bF WB];exact hac
   ·obtain⟨x0,x⟩:=pQ x;refine wX (.inr x0) ?_;rw[bF (fun z'=>by rw[z',h7] at x;cases x)];exact x
   ·refine wX (.inr XN) ?_;rw[bF nas];exact has
  refine AH (n:=1) (fun c=>?_) (fun c1=>?_)
  ·have hl:∃ m wv cc,Br.layerOf (BM.bytesOf b) z.w v.place= .dense m wv cc:=by
    simp only[Br.layerOf,c];exact⟨_,_,_,rfl⟩
   refine aE hl fun m wv cc hl=>?_;refine⟨p,v,b,bv,z,m,wv,cc,rfl,W1,hw,c,hl,hden _ _ _ hl,fun H7 ac cols OB X4 hac WW=>?_⟩;have WB:ac≠qa:=fun e=>by rw[e,a7] at X4;cases X4
   have XQ:H ac=none:=by
    cases e:H ac with
    | none=>rfl
    | some u=>
     rw[bF WB,bt6 _ _ e WB] at X4;cases X4
   have q7:=OB _ _ (a7 (H:=H6) (a:=qa) (o:= .ins CL dx (bG "numbers" (V.ref an) (bG "aside_before" (V.int (z.aside.length:Nat)) (bG "width_behind" (V.int ((z.next (Br.layerOf (BM.bytesOf b) z.w v.place)).w:Nat)) (bG "width_before" (V.int (v.w:Nat)) (bG "byte" (V.int (Br.kindAt (BM.bytesOf b) v.place:Nat)) (bG "place" (V.int (v.place:Nat)) []))))))));refine cO q7 TL.cl TL.columns (by show 6<1000;decide) ?_;have Fb:=xE (upd H7 qa (.ins CL dx (bG "columns" (V.ref ac) (bG "numbers" (V.ref an) (bG "aside_before" (V.int (z.aside.length:Nat)) (bG "width_behind" (V.int ((z.next (Br.layerOf (BM.bytesOf b) z.w v.place)).w:Nat)) (bG "width_before" (V.int (v.w:Nat)) (bG "byte" (V.int (Br.kindAt (BM.bytesOf b) v.place:Nat)) (bG "place" (V.int (v.place:Nat)) []))))))))) (bG "columns" (V.ref ac) (bG "numbers" (V.ref an) (bG "aside_before" (V.int (z.aside.length:Nat)) (bG "width_behind" (V.int ((z.next (Br.layerOf (BM.bytesOf b) z.w v.place)).w:Nat)) (bG "width_before" (V.int (v.w:Nat)) (bG "byte" (V.int (Br.kindAt (BM.bytesOf b) v.place:Nat)) (bG "place" (V.int (v.place:Nat)) []))))))) a7 (by kernel_rfl);walk_at"1";simp only[Fb];walk_at"1";refine AH (n:=1) (fun _=>?_) (fun c1=>absurd c c1);have bt7:But qa H H7:=(bt6.trans dW).trans (.of OB);have W2:=upW H7 (bG "columns" (V.ref ac) (bG "numbers" (V.ref an) (bG "aside_before" (V.int (z.aside.length:Nat)) (bG "width_behind" (V.int ((z.next (Br.layerOf (BM.bytesOf b) z.w v.place)).w:Nat)) (bG "width_before" (V.int (v.w:Nat)) (bG "byte" (V.int (Br.kindAt (BM.bytesOf b) v.place:Nat)) (bG "place" (V.int (v.place:Nat)) []))))))) bt7;refine⟨p,v,b,bv,z,m,wv,cc,rfl,W2,hw,c,hl,hden _ _ _ hl,fun H8 as XY as0 has=>?_⟩;have nas:as≠qa:=fun e=>by rw[e,a7] at as0;cases as0
   have XN:H as=none:=by
    cases e:H as with
    | none=>rfl
    | some u=>
     rw[bF nas,bt7 _ _ e nas] at as0;cases as0
   have q8:=XY _ _ (a7 (H:=H7) (a:=qa) (o:= .ins CL dx (bG "columns" (V.ref ac) (bG "numbers" (V.ref an) (bG "aside_before" (V.int (z.aside.length:Nat)) (bG "width_behind" (V.int ((z.next (Br.layerOf (BM.bytesOf b) z.w v.place)).w:Nat)) (bG "width_before" (V.int (v.w:Nat)) (bG "byte" (V.int (Br.kindAt (BM.bytesOf b) v.place:Nat)) (bG "place" (V.int (v.place:Nat)) [])))))))));refine cO q8 TL.cl TL.singles (by show 7<1000;decide) ?_;refine last H8 ac cols ((bt7.trans dW).trans (.of XY)) q8 WB XQ (XY _ _ (by rw[bF WB];exact hac)) (fun m' wv' c' e=>?_) (XY _ _ (by rw[bF nan];exact OB _ _ aCH)) as nas XN (by rw[hl];exact has);rw[hl] at e;cases e;refine WW.keep fun a l x=>?_;obtain⟨x0,x⟩:=pQ x;have na:a≠qa:=fun z'=>by rw[z',q7] at x;cases x
   refine pR ?_ (XY _ _ ?_)
   ·cases e:H a with
    | none=>rfl
    | some u=>
     rw[bF na,bt6 _ _ e na] at x0;cases x0
   ·rw[bF na];exact x
  ·refine⟨by decide,fun ac X4=>?_⟩;have WB:ac≠qa:=fun e=>by rw[e,a7] at X4;cases X4
   have XQ:H ac=none:=by
    cases e:H ac with
    | none=>rfl
    | some u=>
     rw[bF WB,bt6 _ _ e WB] at X4;cases X4
   have OB:Same (upd H6 qa (.ins CL dx (bG "numbers" (V.ref an) (bG "aside_before" (V.int (z.aside.length:Nat)) (bG "width_behind" (V.int ((z.next (Br.layerOf (BM.bytesOf b) z.w v.place)).w:Nat)) (bG "width_before" (V.int (v.w:Nat)) (bG "byte" (V.int (Br.kindAt (BM.bytesOf b) v.place:Nat)) (bG "place" (V.int (v.place:Nat)) [])))))))) (upd (upd H6 qa (.ins CL dx (bG "numbers" (V.ref an) (bG "aside_before" (V.int (z.aside.length:Nat)) (bG "width_behind" (V.int ((z.next (Br.layerOf (BM.bytesOf b) z.w v.place)).w:Nat)) (bG "width_before" (V.int (v.w:Nat)) (bG "byte" (V.int (Br.kindAt (BM.bytesOf b) v.place:Nat)) (bG "place" (V.int (v.place:Nat)) [])))))))) ac (.lst [])):=a9 X4;generalize hH7:upd (upd H6 qa (.ins CL dx (bG "numbers" (V.ref an) (bG "aside_before" (V.int (z.aside.length:Nat)) (bG "width_behind" (V.int ((z.next (Br.layerOf (BM.bytesOf b) z.w v.place)).w:Nat)) (bG "width_before" (V.int (v.w:Nat)) (bG "byte" (V.int (Br.kindAt (BM.bytesOf b) v.place:Nat)) (bG "place" (V.int (v.place:Nat)) [])))))))) ac (.lst [])=H7 at OB;have hac:H7 ac=some (.lst []):=by rw[←hH7];exact a7
   have q7:=OB _ _ (a7 (H:=H6) (a:=qa) (o:= .ins CL dx (bG "numbers" (V.ref an) (bG "aside_before" (V.int (z.aside.length:Nat)) (bG "width_behind" (V.int ((z.next (Br.layerOf (BM.bytesOf b) z.w v.place)).w:Nat)) (bG "width_before" (V.int (v.w:Nat)) (bG "byte" (V.int (Br.kindAt (BM.bytesOf b) v.place:Nat)) (bG "place" (V.int (v.place:Nat)) []))))))));refine cO q7 TL.cl TL.columns (by show 6<1000;decide) ?_;have Fb:=xE (upd H7 qa (.ins CL dx (bG "columns" (V.ref ac) (bG "numbers" (V.ref an) (bG "aside_before" (V.int (z.aside.length:Nat)) (bG "width_behind" (V.int ((z.next (Br.layerOf (BM.bytesOf b) z.w v.place)).w:Nat)) (bG "width_before" (V.int (v.w:Nat)) (bG "byte" (V.int (Br.kindAt (BM.bytesOf b) v.place:Nat)) (bG "place" (V.int (v.place:Nat)) []))))))))) (bG "columns" (V.ref ac) (bG "numbers" (V.ref an) (bG "aside_before" (V.int (z.aside.length:Nat)) (bG "width_behind" (V.int ((z.next (Br.layerOf (BM.bytesOf b) z.w v.place)).w:Nat)) (bG "width_before" (V.int (v.w:Nat)) (bG "byte" (V.int (Br.kindAt (BM.bytesOf b) v.place:Nat)) (bG "place" (V.int (v.place:Nat)) []))))))) a7 (by kernel_rfl);walk_at"1";simp only[Fb];walk_at"1";refine AH (n:=1) (fun c=>absurd c c1) (fun _=>?_);have bt7:But qa H H7:=(bt6.trans dW).trans (.of OB);refine⟨by decide,fun as as0=>?_⟩;have nas:as≠qa:=fun e=>by rw[e,a7] at as0;cases as0
   have XN:H as=none:=by
    cases e:H as with
    | none=>rfl
    | some u=>
     rw[bF nas,bt7 _ _ e nas] at as0;cases as0
   have XY:Same (upd H7 qa (.ins CL dx (bG "columns" (V.ref ac) (bG "numbers" (V.ref an) (bG "aside_before" (V.int (z.aside.length:Nat)) (bG "width_behind" (V.int ((z.next (Br.layerOf (BM.bytesOf b) z.w v.place)).w:Nat)) (bG "width_before" (V.int (v.w:Nat)) (bG "byte" (V.int (Br.kindAt (BM.bytesOf b) v.place:Nat)) (bG "place" (V.int (v.place:Nat)) []))))))))) (upd (upd H7 qa (.ins CL dx (bG "columns" (V.ref ac) (bG "numbers" (V.ref an) (bG "aside_before" (V.int (z.aside.length:Nat)) (bG "width_behind" (V.int ((z.next (Br.layerOf (BM.bytesOf b) z.w v.place)).w:Nat)) (bG "width_before" (V.int (v.w:Nat)) (bG "byte" (V.int (Br.kindAt (BM.bytesOf b) v.place:Nat)) (bG "place" (V.int (v.place:Nat)) []))))))))) as (.lst [])):=a9 as0;have q8:=XY _ _ (a7 (H:=H7) (a:=qa) (o:= .ins CL dx (bG "columns" (V.ref ac) (bG "numbers" (V.ref an) (bG "aside_before" (V.int (z.aside.length:Nat)) (bG "width_behind" (V.int ((z.next (Br.layerOf (BM.bytesOf b) z.w v.place)).w:Nat)) (bG "width_before" (V.int (v.w:Nat)) (bG "byte" (V.int (Br.kindAt (BM.bytesOf b) v.place:Nat)) (bG "place" (V.int (v.place:Nat)) [])))))))));refine cO q8 TL.cl TL.singles (by show 7<1000;decide) ?_;have nd:∀ m wv c,Br.layerOf (BM.bytesOf b) z.w v.place≠.dense m wv c:=fun m wv c e=>by
    unfold Br.layerOf at e
    split at e <;> first | (exact c1 (by assumption)) | cases e
   have es:sP (Br.layerOf (BM.bytesOf b) z.w v.place)=[]:=by
    cases hl:Br.layerOf (BM.bytesOf b) z.w v.place with
    | dense m wv c=>exact absurd hl (nd m wv c)
    | _=>rfl
   exact last _ ac [] ((bt7.trans dW).trans (.of XY)) q8 WB XQ (XY _ _ (by rw[bF WB];exact hac)) (fun m' wv' c' e=>absurd e (nd _ _ _)) (XY _ _ (by rw[bF nan];exact OB _ _ aCH)) as nas XN (by rw[es];exact a7)
end
local macro_rules | `(tactic| walk_at"0")=>sm false ([]) (mV++mL++lK++eS++fO++eM)
local macro_rules | `(tactic| walk_at"2")=>sm false (ZZ) (mV++mL++lK++eS++fO++eM)
abbrev p4:Stmt:=inClass (top 42) 0
theorem yK:bJ ["self","net","below"] ["self","net","below"] (bC p4):=bV (by kernel_rfl)
inductive pH(C:Addr)(vs:List V)(H:Hp)(Q:VK)(E:XK):Prop
 | mk (p dx a bl:Addr) (b:List Nat) (_:vs=[.ref p,.ref a,.ref bl]) (_:H p=some (.ins C dx [])) (_:H a=some (.lst (nums b))) (_:6≤b.length) (_:(∀ x∈b,x<256)) (_:∀ H' la lo ly,But p H H'→H' p=some (.ins C dx (WV.fs ⟨a,bl,la,lo,ly,6,Br.le (BM.bytesOf b) 4 2,Br.le (BM.bytesOf b) 4 2,1,0,Br.le (BM.bytesOf b) 4 2,false⟩))→H la=none→H lo=none→H ly=none→la≠lo→la≠ly→lo≠ly→H' la=some (.lst [])→H' lo=some (.lst [])→H' ly=some (.lst [])→Q .non H'):pH C vs H Q E
section
variable{P:Program}{w:World}{K:W.Frag}{mg:Str→Option Value}{base:Heap}{C CL:Addr}
theorem JD(D:pV K C "__init__" "Walk.__init__" p4 ["self","net","below"])(T:sE K mg)(TW:hU K C)(i7:Own P w K mg base "number_at" ["net","place"] 1 lD):
  cV P w K mg base C "__init__" ["self","net","below"] 2 (pH C):=by
 refine D.own TW.cl yK (fun vs H Q E h=>?_) (fun f cdv A outer s H vs Q E hr h=>?_)
 ·obtain⟨p,dx,a,bl,b,rfl,_⟩:=h;rfl
 ·obtain⟨p,dx,a,bl,b,rfl,hp,ha,h6,hb,q⟩:=h;have nap:a≠p:=fun e=>by rw[e,hp] at ha;cases ha
  refine⟨_,(aZ (cP (pv 0) (pv 1) rfl)
   (aZ (cP (pv 0) (pv 2) rfl)
   (aZ (cP (pv 0) (cH rfl T.HEAD) rfl)
   (aZ (cP (pv 0) (bN i7 hr (by decide) rfl (aY (pv 1) (aY a8 a6))) rfl)
   (aZ (cP (pv 0) (bB (pv 0) rfl) rfl)
   (aZ (cP (pv 0) (cG a6) rfl)
   (aZ (cP (pv 0) (cG a6) rfl)
   (aZ (cP (pv 0) a8 rfl)
   (aZ (cP (pv 0) (cG a6) rfl)
   (aZ (cP (pv 0) a8 rfl)
   (aZ (cP (pv 0) (bB (pv 0) rfl) rfl)
   (bA (cP (pv 0) Q7 rfl))))))))))))),?_⟩
  walk_at"0";refine cO hp TW.cl TW.net (by decide) ?_;refine cO a7 TW.cl TW.below (by show 1<1000;decide) ?_;rw[dD];refine cO a7 TW.cl TW.place (by show 2<1000;decide) ?_;rw[dD];refine⟨a,b,4,rfl,by rw[bF nap];exact ha,by omega,hb,?_⟩;refine cO a7 TW.cl TW.width_in (by show 3<1000;decide) ?_;rw[dD];have rdw:∀ (H':Hp) (fs:List (Str×V)),H' p=some (.ins C dx fs)→fs.lookup ("width_in":Str)=some (V.int (Br.le (BM.bytesOf b) 4 2:Nat))→∀ Q,tK K "width_in" (.ref p) H' Q↔Q (V.int (Br.le (BM.bytesOf b) 4 2:Nat)) H':=fun H' fs h l=>cQ h TW.cl TW.width_in l;have Fw:=rdw (upd H p (.ins C dx (bG "width_in" (V.int (Br.le (BM.bytesOf b) 4 2:Nat)) (bG "place" (V.int 6) (bG "below" (V.ref bl) (bG "net" (V.ref a) [])))))) (bG "width_in" (V.int (Br.le (BM.bytesOf b) 4 2:Nat)) (bG "place" (V.int 6) (bG "below" (V.ref bl) (bG "net" (V.ref a) [])))) a7 (by kernel_rfl);rw[Fw];refine cO a7 TW.cl TW.width (by show 4<1000;decide) ?_;rw[dD];refine⟨by decide,fun la hla=>?_⟩;have nla:la≠p:=fun e=>by rw[e,a7] at hla;cases hla
  have la0:H la=none:=by rw[bF nla] at hla;exact hla
  have bt1:But p H (upd (upd H p (.ins C dx (bG "width" (V.int (Br.le (BM.bytesOf b) 4 2:Nat)) (bG "width_in" (V.int (Br.le (BM.bytesOf b) 4 2:Nat)) (bG "place" (V.int 6) (bG "below" (V.ref bl) (bG "net" (V.ref a) []))))))) la (.lst [])):=(dW (p:=p)).trans (.of (a9 hla));generalize hH1:upd (upd H p (.ins C dx (bG "width" (V.int (Br.le (BM.bytesOf b) 4 2:Nat)) (bG "width_in" (V.int (Br.le (BM.bytesOf b) 4 2:Nat)) (bG "place" (V.int 6) (bG "below" (V.ref bl) (bG "net" (V.ref a) []))))))) la (.lst [])=H1 at bt1;have p1:H1 p=some (.ins C dx (bG "width" (V.int (Br.le (BM.bytesOf b) 4 2:Nat)) (bG "width_in" (V.int (Br.le (BM.bytesOf b) 4 2:Nat)) (bG "place" (V.int 6) (bG "below" (V.ref bl) (bG "net" (V.ref a) [])))))):=by rw[←hH1,bF (Ne.symm nla)];exact a7
  have a1:H1 la=some (.lst []):=by rw[←hH1];exact a7
  refine cO p1 TW.cl TW.aside (by show 5<1000;decide) ?_;refine⟨by decide,fun lo hlo=>?_⟩;have nlo:lo≠p:=fun e=>by rw[e,a7] at hlo;cases hlo
  have lo1:H1 lo=none:=by rw[bF nlo] at hlo;exact hlo
  have lo0:H lo=none:=by
   cases e:H lo with
   | none=>rfl
   | some u=>rw[bt1 _ _ e nlo] at lo1;cases lo1
  have bt2:But p H (upd (upd H1 p (.ins C dx (bG "aside" (V.ref la) (bG "width" (V.int (Br.le (BM.bytesOf b) 4 2:Nat)) (bG "width_in" (V.int (Br.le (BM.bytesOf b) 4 2:Nat)) (bG "place" (V.int 6) (bG "below" (V.ref bl) (bG "net" (V.ref a) [])))))))) lo (.lst [])):=(bt1.trans dW).trans (.of (a9 hlo));have nal:la≠lo:=fun e=>by rw[e,lo1] at a1;cases a1
  generalize hH2:upd (upd H1 p (.ins C dx (bG "aside" (V.ref la) (bG "width" (V.int (Br.le (BM.bytesOf b) 4 2:Nat)) (bG "width_in" (V.int (Br.le (BM.bytesOf b) 4 2:Nat)) (bG "place" (V.int 6) (bG "below" (V.ref bl) (bG "net" (V.ref a) [])))))))) lo (.lst [])=H2 at bt2;have p2:H2 p=some (.ins C dx (bG "aside" (V.ref la) (bG "width" (V.int (Br.le (BM.bytesOf b) 4 2:Nat)) (bG "width_in" (V.int (Br.le (BM.bytesOf b) 4 2:Nat)) (bG "place" (V.int 6) (bG "below" (V.ref bl) (bG "net" (V.ref a) []))))))):=by rw[←hH2,bF (Ne.symm nlo)];exact a7
  have a2:H2 la=some (.lst []):=by rw[←hH2,bF nal,bF nla];exact a1
  have o2:H2 lo=some (.lst []):=by rw[←hH2];exact a7
  refine cO p2 TW.cl TW.loops (by show 6<1000;decide) ?_;refine cO a7 TW.cl TW.times (by show 7<1000;decide) ?_;rw[dD];refine⟨by decide,fun ly hly=>?_⟩;have nly:ly≠p:=fun e=>by rw[e,a7] at hly;cases hly
  have ly2:H2 ly=none:=by rw[bF nly] at hly;exact hly
  have ly0:H ly=none:=by
   cases e:H ly with
   | none=>rfl
   | some u=>rw[bt2 _ _ e nly] at ly2;cases ly2
  have nay:la≠ly:=fun e=>by rw[e,ly2] at a2;cases a2
  have noy:lo≠ly:=fun e=>by rw[e,ly2] at o2;cases o2
  have bt3:But p H (upd (upd H2 p (.ins C dx (bG "times" (V.int 1) (bG "loops" (V.ref lo) (bG "aside" (V.ref la) (bG "width" (V.int (Br.le (BM.bytesOf b) 4 2:Nat)) (bG "width_in" (V.int (Br.le (BM.bytesOf b) 4 2:Nat)) (bG "place" (V.int 6) (bG "below" (V.ref bl) (bG "net" (V.ref a) [])))))))))) ly (.lst [])):=(bt2.trans dW).trans (.of (a9 hly));generalize hH3:upd (upd H2 p (.ins C dx (bG "times" (V.int 1) (bG "loops" (V.ref lo) (bG "aside" (V.ref la) (bG "width" (V.int (Br.le (BM.bytesOf b) 4 2:Nat)) (bG "width_in" (V.int (Br.le (BM.bytesOf b) 4 2:Nat)) (bG "place" (V.int 6) (bG "below" (V.ref bl) (bG "net" (V.ref a) [])))))))))) ly (.lst [])=H3 at bt3;have p3:H3 p=some (.ins C dx (bG "times" (V.int 1) (bG "loops" (V.ref lo) (bG "aside" (V.ref la) (bG "width" (V.int (Br.le (BM.bytesOf b) 4 2:Nat)) (bG "width_in" (V.int (Br.le (BM.bytesOf b) 4 2:Nat)) (bG "place" (V.int 6) (bG "below" (V.ref bl) (bG "net" (V.ref a) []))))))))):=by rw[←hH3,bF (Ne.symm nly)];exact a7
  have a3:H3 la=some (.lst []):=by rw[←hH3,bF nay,bF nla];exact a2
  have o3:H3 lo=some (.lst []):=by rw[←hH3,bF noy,bF nlo];exact o2
  have y3:H3 ly=some (.lst []):=by rw[←hH3];exact a7
  refine cO p3 TW.cl TW.layers (by show 8<1000;decide) ?_;refine cO a7 TW.cl TW.done (by show 9<1000;decide) ?_;rw[dD];have Fw:=rdw (upd H3 p (.ins C dx (bG "done" (V.int 0) (bG "layers" (V.ref ly) (bG "times" (V.int 1) (bG "loops" (V.ref lo) (bG "aside" (V.ref la) (bG "width" (V.int (Br.le (BM.bytesOf b) 4 2:Nat)) (bG "width_in" (V.int (Br.le (BM.bytesOf b) 4 2:Nat)) (bG "place" (V.int 6) (bG "below" (V.ref bl) (bG "net" (V.ref a) [])))))))))))) (bG "done" (V.int 0) (bG "layers" (V.ref ly) (bG "times" (V.int 1) (bG "loops" (V.ref lo) (bG "aside" (V.ref la) (bG "width" (V.int (Br.le (BM.bytesOf b) 4 2:Nat)) (bG "width_in" (V.int (Br.le (BM.bytesOf b) 4 2:Nat)) (bG "place" (V.int 6) (bG "below" (V.ref bl) (bG "net" (V.ref a) [])))))))))) a7 (by kernel_rfl);rw[Fw];refine cO a7 TW.cl TW.need (by show 10<1000;decide) ?_;rw[dD];refine cO a7 TW.cl TW.ended (by show 11<1000;decide) ?_;rw[dD];refine q _ la lo ly (bt3.trans dW) ?_ la0 lo0 ly0 nal nay noy (by rw[bF nla];exact a3) (by rw[bF nlo];exact o3) (by rw[bF nly];exact y3);rw[a7];congr 2
end
theorem WV.aDN(v:WV)(j:Nat):bG ("done":Str) (.int j) v.fs={v with dn:=j}.fs:=by kernel_rfl
theorem WV.aBh(v:WV)(j:Nat):bG ("need":Str) (.int j) v.fs={v with need:=j}.fs:=by kernel_rfl
theorem WV.Q8(v:WV)(j:Nat):bG ("times":Str) (.int j) v.fs={v with times:=j}.fs:=by kernel_rfl
theorem WV.p_w(v:WV)(j:Nat):bG ("width":Str) (.int j) v.fs={v with w:=j}.fs:=by kernel_rfl
theorem WV.YZ(v:WV)(j:Nat):bG ("place":Str) (.int j) v.fs={v with place:=j}.fs:=by kernel_rfl
theorem WV.Y0(v:WV)(j:Bool):bG ("ended":Str) (.bl j) v.fs={v with ended:=j}.fs:=by kernel_rfl
def mask(H:Hp)(p a l y:Addr):Hp:=fun b=>if b=p∨b=a∨b=l∨b=y then none else H b
section
variable{H H':Hp}{p a l y:Addr}
theorem rQ{b:Addr}(h:¬(b=p∨b=a∨b=l∨b=y)):mask H p a l y b=H b:=by
 unfold mask;rw[if_neg h]
theorem JG{b:Addr}(h:b=p∨b=a∨b=l∨b=y):mask H p a l y b=none:=by
 unfold mask;rw[if_pos h]
theorem BG{b:Addr}{o:HO}(e:mask H p a l y b=some o):¬(b=p∨b=a∨b=l∨b=y)∧H b=some o:=by
 unfold mask at e
 split at e
 ·cases e
 ·exact⟨by assumption,e⟩
theorem lP:Same (mask H p a l y) H:=fun b o e=>(BG e).2
theorem sV(sm:Same H H'):Same (mask H p a l y) (mask H' p a l y):=fun b o e=>by
 obtain⟨h1,h2⟩:=BG e;rw[rQ h1];exact sm _ _ h2
theorem rP{b:Addr}{o:HO}(h:b=p∨b=a∨b=l∨b=y):mask (upd H b o) p a l y=mask H p a l y:=by
 funext c;unfold mask
 split
 ·rfl
 ·rename_i n;rw[bF (fun z=>n (by rw[z];exact h))]
end
def sJ(CL:Addr)(G:Hp)(ys:List V)(ts:List Br.Told):Prop:=ys.length=ts.length∧∀ (i:Nat) (t:Br.Told),ts[i]?=some t→∃ q,ys[i]?=some (.ref q)∧jO CL G q t.at_ t.kind t.before t.layer
theorem sJ.same{CL:Addr}{G G':Hp}{ys:List V}{ts:List Br.Told}(h:sJ CL G ys ts)(sm:Same G G'):sJ CL G' ys ts:=
 ⟨h.1,fun i t e=>let ⟨q,h1,h2⟩:=h.2 i t e;⟨q,h1,h2.same sm⟩⟩
theorem sJ.snoc{CL:Addr}{G:Hp}{ys:List V}{ts:List Br.Told}{q:Addr}{t:Br.Told}(h:sJ CL G ys ts)(hq:jO CL G q t.at_ t.kind t.before t.layer):sJ CL G (ys++[.ref q]) (ts++[t]):=by
 refine⟨by rw[aFb,aFb,h.1];rfl,fun i u e=>?_⟩;by_cases c:i<ts.length
 ·rw[aFK c] at e;refine aA (h.2 i u e) fun q' h1 h2=>?_;exact⟨q',by rw[aFK (by rw[h.1];exact c)];exact h1,h2⟩
 ·rw[aFu (by lia)] at e;have ei:i-ts.length=0:=by
   cases ej:i-ts.length with
   | zero=>rfl
   | succ n=>
    rw[ej] at e;cases e
  rw[ei] at e;cases e;exact⟨q,by rw[aFu (by rw[h.1];lia),h.1,ei];rfl,hq⟩
theorem GV{H0 X Y:Hp}(sm:Same X Y):Same (tG H0 X) (tG H0 Y):=fun b o e=>by
 obtain⟨h1,h2⟩:=pQ e;exact pR h1 (sm _ _ h2)
theorem V9{H X:Hp}:Same (tG H X) X:=fun b o e=>(pQ e).2
structure vJ(C CL:Addr)(H0 H:Hp)(p:Addr)(v:WV)(b:List Nat)(bv:List V)(z:Br.Spot)(Hs:Br.House)(s:Nat)(ts:List Br.Told):Prop where
 base:Same H0 (mask H p v.aside v.loops v.layers)
 at_:∃ dx,H p=some (.ins C dx v.fs)
 net:H0 v.net=some (.lst (nums b))
 Z8:H0 v.below=some (.lst bv)
 below:iM C H0 bv Hs s
 zG:H v.aside=some (.lst (nums z.aside.reverse))
 lps:∃ ls,H v.loops=some (.lst ls.reverse)∧hW (mask H p v.aside v.loops v.layers) ls z.loops
 ZG:∃ ys,H v.layers=some (.lst ys)∧sJ CL (tG H0 (mask H p v.aside v.loops v.layers)) ys ts
 n1:v.aside≠v.loops
 n2:v.aside≠v.layers
 n3:v.loops≠v.layers
 w:v.w=z.w
 times:v.times=z.often
 bytes:∀ x∈b,x<256
 len:b.length≤30000
 spot:BM.sG z
 FS:z.aside.length≤16
 llen:z.loops.length≤ts.length
section
variable{C CL:Addr}{H0 H H':Hp}{p:Addr}{v v':WV}{b:List Nat}{bv:List V}{z z':Br.Spot}{Hs:Br.House}{s:Nat}{ts:List Br.Told}
theorem vJ.wk(G:vJ C CL H0 H p v b bv z Hs s ts):lM C H p v b bv z:=by
 refine aA G.lps fun ls h1 h2=>?_;have sm:Same H0 H:=G.base.trans lP;exact⟨G.at_,sm _ _ G.net,sm _ _ G.Z8,G.zG,⟨ls,h1,h2.same lP⟩,G.w,G.times,G.bytes,G.len,G.spot,G.FS⟩
theorem vJ.bw(G:vJ C CL H0 H p v b bv z Hs s ts):iM C H bv Hs s:=G.below.same (G.base.trans lP)
theorem vJ.npa(G:vJ C CL H0 H p v b bv z Hs s ts):v.aside≠p∧v.loops≠p∧v.layers≠p:=by
 obtain⟨dx,h⟩:=G.at_;refine aA G.lps fun ls h1 _=>?_;refine aA G.ZG fun ys h2 _=>?_;refine⟨fun e=>?_,fun e=>?_,fun e=>?_⟩
 ·have:=G.zG;rw[e,h] at this;cases this
 ·rw[e,h] at h1;cases h1
 ·rw[e,h] at h2;cases h2
theorem vJ.same(G:vJ C CL H0 H p v b bv z Hs s ts)(sm:Same H H'):vJ C CL H0 H' p v b bv z Hs s ts:=by
 obtain⟨dx,h⟩:=G.at_;refine aA G.lps fun ls h1 h2=>?_;refine aA G.ZG fun ys h3 h4=>?_;exact⟨G.base.trans (sV sm),⟨dx,sm _ _ h⟩,G.net,G.Z8,G.below,sm _ _ G.zG,⟨ls,sm _ _ h1,h2.same (sV sm)⟩,⟨ys,sm _ _ h3,h4.same (GV (sV sm))⟩,G.n1,G.n2,G.n3,G.w,G.times,G.bytes,G.len,G.spot,G.FS,G.llen⟩
theorem vJ.aAT{dx:Addr}(G:vJ C CL H0 H p v b bv z Hs s ts)(e1:v'.net=v.net)(e2:v'.below=v.below)(e3:v'.aside=v.aside)(e4:v'.loops=v.loops)(e5:v'.layers=v.layers)(hw:v'.w=z'.w)(ht:v'.times=z'.often)(ea:z'.aside=z.aside)(el:z'.loops=z.loops)(so:BM.sG z'):
  vJ C CL H0 (upd H p (.ins C dx v'.fs)) p v' b bv z' Hs s ts:=by
 refine aF G.npa fun n1 n2 n3=>?_;have em:mask (upd H p (.ins C dx v'.fs)) p v'.aside v'.loops v'.layers=mask H p v.aside v.loops v.layers:=by rw[e3,e4,e5,rP (.inl rfl)]
 refine aA G.lps fun ls h1 h2=>?_;refine aA G.ZG fun ys h3 h4=>?_;refine⟨by rw[em];exact G.base,⟨dx,a7⟩,by rw[e1];exact G.net,by rw[e2];exact G.Z8,G.below,?_,⟨ls,?_,by rw[em,el];exact h2⟩,⟨ys,?_,by rw[em];exact h4⟩,by rw[e3,e4];exact G.n1,by rw[e3,e5];exact G.n2,by rw[e4,e5];exact G.n3,hw,ht,G.bytes,G.len,so,by rw[ea];exact G.FS,by rw[el];exact G.llen⟩
 ·rw[e3,bF n1,ea];exact G.zG
 ·rw[e4,bF n2];exact h1
 ·rw[e5,bF n3];exact h3
theorem vJ.aAU{as:List Nat}(G:vJ C CL H0 H p v b bv z Hs s ts)(so:BM.sG {z with aside:=as})(al:as.length≤16):vJ C CL H0 (upd H v.aside (.lst (nums as.reverse))) p v b bv {z with aside:=as} Hs s ts:=by
 refine aF G.npa fun n1 n2 n3=>?_;have em:mask (upd H v.aside (.lst (nums as.reverse))) p v.aside v.loops v.layers=mask H p v.aside v.loops v.layers:=rP (.inr (.inl rfl));obtain⟨dx,h0⟩:=G.at_;refine aA G.lps fun ls h1 h2=>?_;refine aA G.ZG fun ys h3 h4=>?_;refine⟨by rw[em];exact G.base,⟨dx,by rw[bF (Ne.symm n1)];exact h0⟩,G.net,G.Z8,G.below,a7,⟨ls,by rw[bF (Ne.symm G.n1)];exact h1,by rw[em];exact h2⟩,⟨ys,by rw[bF (Ne.symm G.n2)];exact h3,by rw[em];exact h4⟩,G.n1,G.n2,G.n3,G.w,G.times,G.bytes,G.len,so,al,G.llen⟩
theorem vJ.aEF{q:Addr}{t:Br.Told}{ys:List V}(G:vJ C CL H0 H p v b bv z Hs s ts)(hy:H v.layers=some (.lst ys))(hq:jO CL (tG H0 (mask H p v.aside v.loops v.layers)) q t.at_ t.kind t.before t.layer):
  vJ C CL H0 (upd H v.layers (.lst (ys++[.ref q]))) p v b bv z Hs s (ts++[t]):=by
 refine aF G.npa fun n1 n2 n3=>?_;have em:mask (upd H v.layers (.lst (ys++[.ref q]))) p v.aside v.loops v.layers=mask H p v.aside v.loops v.layers:=rP (.inr (.inr (.inr rfl)));obtain⟨dx,h0⟩:=G.at_;refine aA G.lps fun ls h1 h2=>?_;refine aA G.ZG fun ys' h3 h4=>?_;rw[hy] at h3;cases h3;refine⟨by rw[em];exact G.base,⟨dx,by rw[bF (Ne.symm n3)];exact h0⟩,G.net,G.Z8,G.below,by rw[bF G.n2];exact G.zG,⟨ls,by rw[bF G.n3];exact h1,by rw[em];exact h2⟩,⟨_,a7,by rw[em];exact h4.snoc hq⟩,G.n1,G.n2,G.n3,G.w,G.times,G.bytes,G.len,G.spot,G.FS,by have:=G.llen;rw[aFb];lia⟩
theorem vJ.aCm{dx:Addr}{ls:List V}{es:List (Nat×Nat×List Nat)}(G:vJ C CL H0 H p v b bv z Hs s ts)(hl:hW (mask H p v.aside v.loops v.layers) ls es)(ht:v'.times=BM.L6 es)(hle:es.length≤ts.length)(e1:v'.net=v.net)(e2:v'.below=v.below)(e3:v'.aside=v.aside)(e4:v'.loops=v.loops)(e5:v'.layers=v.layers)(e6:v'.w=v.w):
  vJ C CL H0 (upd (upd H v.loops (.lst ls.reverse)) p (.ins C dx v'.fs)) p v' b bv {z with loops:=es} Hs s ts:=by
 refine aF G.npa fun n1 n2 n3=>?_;have em:mask (upd (upd H v.loops (.lst ls.reverse)) p (.ins C dx v'.fs)) p v'.aside v'.loops v'.layers=mask H p v.aside v.loops v.layers:=by rw[e3,e4,e5,rP (.inl rfl),rP (.inr (.inr (.inl rfl)))]
 refine aA G.ZG fun ys h3 h4=>?_;refine⟨by rw[em];exact G.base,⟨dx,a7⟩,by rw[e1];exact G.net,by rw[e2];exact G.Z8,G.below,?_,⟨ls,?_,by rw[em];exact hl⟩,⟨ys,?_,by rw[em];exact h4⟩,by rw[e3,e4];exact G.n1,by rw[e3,e5];exact G.n2,by rw[e4,e5];exact G.n3,by rw[e6];exact G.w,?_,G.bytes,G.len,G.spot,G.FS,hle⟩
 ·rw[e3,bF n1,bF G.n1];exact G.zG
 ·rw[e4,bF n2];exact a7
 ·rw[e5,bF n3,bF (Ne.symm G.n3)];exact h3
 ·rw[ht];clear hl ht;cases es <;> rfl
end
local macro_rules | `(tactic| walk_at"0")=>sm true ([]) (mV++mL++lK++eS++fO++eM)
local macro_rules | `(tactic| walk_at"2")=>sm true (ZZ) (mV++mL++lK++eS++fO++eM)
abbrev v9:Stmt:=top 58
theorem kE:bJ ["walk","layer","end","width"] ["walk"] (bC v9):=bV (by kernel_rfl)
def zA(k:Nat)(z:Br.Spot):Br.Spot:=if k=4 then {z with aside:=z.w::z.aside} else z
def zB(k:Nat)(z:Br.Spot):Br.Spot:=if k=5∨k=6∨k=11∨k=12 then {zA k z with aside:=(zA k z).aside.drop 1} else zA k z
def zC(k:Nat)(z:Br.Spot):Br.Spot:=if k=11 then {zB k z with aside:=z.w::(zB k z).aside} else zB k z
def zD(k r:Nat)(z:Br.Spot):Br.Spot:=if k=14 then {zC k z with loops:=(z.often*r,z.w,z.aside)::z.loops} else zC k z
def zE(k r:Nat)(z:Br.Spot):Br.Spot:=if k=15 then {zD k r z with loops:=z.loops.drop 1} else zD k r z
theorem X8{b:Br.Bytes}{z:Br.Spot}{p:Nat}(h15:Br.kindAt b p≤15):{zE (Br.kindAt b p) (Br.le b (p+1) 1) z with w:=(z.next (Br.layerOf b z.w p)).w}=z.next (Br.layerOf b z.w p):=by
 generalize hk:Br.kindAt b p=k at h15;have hk':k=0∨k=1∨k=2∨k=3∨k=4∨k=5∨k=6∨k=7∨k=8∨k=9∨k=10∨k=11∨k=12∨k=13∨k=14∨k=15:=by lia
 rcases hk' with rfl | rfl | rfl | rfl | rfl | rfl | rfl | rfl | rfl | rfl | rfl | rfl | rfl | rfl | rfl | rfl <;> simp only[Br.layerOf,hk] <;> rfl
inductive nR(C CL:Addr)(vs:List V)(H:Hp)(Q:VK)(E:XK):Prop
 | mk (H0:Hp) (p:Addr) (v:WV) (b:List Nat) (bv:List V) (z:Br.Spot) (Hs:Br.House) (s:Nat) (ts:List Br.Told) (t:Br.Told) (_:vs=[.ref p]) (_:vJ C CL H0 H p v b bv z Hs s ts) (_:ts.length≤30000) (_:Br.wrongAt Hs s (BM.bytesOf b) z v.place v.dn=none) (_:Br.toldAt Hs s (BM.bytesOf b) z v.place=some t) (_:∀ H' v',vJ C CL H0 H' p v' b bv (z.next t.layer) Hs s (ts++[t])→v'.place=v.place+1+Br.behind (BM.bytesOf b) z.w v.place→v'.win=v.win→v'.dn=v.dn+t.cost→v'.need=max v.need (gP t)→v'.ended=decide (Br.kindAt (BM.bytesOf b) v.place=0)→v'.net=v.net→v'.below=v.below→v'.aside=v.aside→v'.loops=v.loops→v'.layers=v.layers→Q .non H'):nR C CL vs H Q E
section
variable{P:Program}{w:World}{K:W.Frag}{mg:Str→Option Value}{base:Heap}{C CL:Addr}
theorem FB(D:Def K mg "pass_layer" v9 ["walk"])(T:sE K mg)(TW:hU K C)(TL:mW K CL)(cR:cV P w K mg base C "layer" ["self"] 1 (fF C))(gR:Own P w K mg base "layer_end" ["walk"] 3 (lE C))(dH:Own P w K mg base "new_width" ["walk"] 3 (gS C))
  (gA:Own P w K mg base "layers_done" ["walk"] 4 (oJ C Br.Told.cost)) (zL:Own P w K mg base "need_at" ["walk"] 4 (oJ C gP)) (KC:EV P w K mg base "Layer" CL ["self","walk"] 5 (nU C CL)):
  Own P w K mg base "pass_layer" ["walk"] 7 (nR C CL):=by
 refine D.own kE (fun vs H Q E h=>?_) (fun f cdv A outer s H vs Q E hr h=>?_)
 ·obtain⟨H0,p,v,b,bv,z,Hs,s,ts,t,rfl,_⟩:=h;rfl
 ·obtain⟨H0,p,v,b,bv,z,Hs,s,ts,t,rfl,G,hts,hno,ht,q⟩:=h;(refine aK (BM.jP hno) fun w1 w2 w3 w4 w5 bO=>?_;refine aF bO fun w6 w7 _=>?_);rw[BM.dY] at w1 w3;refine aK (BM.gH ht) fun t1 t2 t3 t4 _ _=>?_;have hw:sD b z v.place:=⟨w1,w3⟩;have W:=G.wk;have F:=W.rd TW;have hne:Br.kindAt (BM.bytesOf b) v.place=11∨Br.kindAt (BM.bytesOf b) v.place=12→z.aside≠[]:=fun h e=>by
   have UM:=w5;rcases h with h | h
   ·simp only[Br.layerOf,h] at UM;have:z.aside.isEmpty=false:=UM;rw[e] at this;cases this
   ·simp only[Br.layerOf,h] at UM;have:z.aside.isEmpty=false:=UM;rw[e] at this;cases this
  have hden:∀ m wv c,Br.layerOf (BM.bytesOf b) z.w v.place= .dense m wv c→Br.sizeOk m=true:=fun m wv c e=>by
   have w4':=w4;rw[e] at w4';have:(!Br.sizeOk m)=false:=w4';simpa using this
  refine aA G.ZG fun ys hys hYA=>?_;refine⟨_,(aZ (bK (i:=1) kE.nd rfl (Or.inl rfl) (cJ cR hr (by decide) (pv 0)))
   (aZ (dA (o0 PySem.F.plainAttrs_list PySem.F.slot_list_append PySem.F.type_list_append fK (bB (pv 0) rfl) (aY (DC KC hr (by decide) rfl (aY (pv 0) a6)) a6)))
   (aZ (iV (pv 0) (bN gA hr (by decide) rfl (aY (pv 0) a6)) xC)
   (aZ (cP (pv 0) (bY (HM rfl) (by rfl) T.max boot_max (aY (bB (pv 0) rfl) (aY (bN zL hr (by decide) rfl (aY (pv 0) a6)) a6))) rfl)
   (aZ (bK (i:=2) kE.nd rfl (Or.inl rfl) (bN gR hr (by decide) rfl (aY (pv 0) a6)))
   (aZ (bK (i:=3) kE.nd rfl (Or.inl rfl) (bN dH hr (by decide) rfl (aY (pv 0) a6)))
   (aZ (dG (cE (bU (cY (pv 1) a8)) (bA (dA (o0 PySem.F.plainAttrs_list PySem.F.slot_list_append PySem.F.type_list_append fK (bB (pv 0) rfl) (aY (bB (pv 0) rfl) a6)))) bT))
   (aZ (dG (cE (BE sU (pv 1) (fC (aY a8 (aY a8 (aY a8 (aY a8 a6))))) (by with_unfolding_all rfl)) (bA (dA (rH PySem.F.plainAttrs_list PySem.F.slot_list_pop PySem.F.type_list_pop vC (bB (pv 0) rfl)))) bT))
   (aZ (dG (cE (bU (cY (pv 1) a8)) (bA (dA (o0 PySem.F.plainAttrs_list PySem.F.slot_list_append PySem.F.type_list_append fK (bB (pv 0) rfl) (aY (bB (pv 0) rfl) a6)))) bT))
   (aZ (dG (cE (bU (cY (pv 1) a8)) (aZ (dA (o0 PySem.F.plainAttrs_list PySem.F.slot_list_append PySem.F.type_list_append fK (bB (pv 0) rfl) (aY (fC (aY (bB (pv 0) rfl) (aY (bB (pv 0) rfl) (aY (yO xN (by rfl) T.list PyProof.Rows.boot_list (aY (bB (pv 0) rfl) a6)) a6)))) a6)))
   (bA (iV (pv 0) (cC bZ (bB (pv 0) rfl) (bH bX (bB (pv 0) rfl) a8) (fun _ _=>rfl)) ZO))) bT))
   (aZ (dG (cE (bU (cY (pv 1) a8)) (bA (cP (pv 0) (cC dS (rH PySem.F.plainAttrs_list PySem.F.slot_list_pop PySem.F.type_list_pop vC (bB (pv 0) rfl)) a8 (fun _ _=>rfl)) rfl)) bT))
   (aZ (cP (pv 0) (hG (cY (pv 1) a8)) rfl)
   (aZ (cP (pv 0) (pv 3) rfl)
   (bA (cP (pv 0) (pv 2) rfl))))))))))))))),?_⟩
  walk_at"2";refine⟨p,v,b,bv,z,rfl,W,w1,?_⟩;generalize hk:Br.kindAt (BM.bytesOf b) v.place=k at q;walk_at"2";refine⟨.inl ⟨rfl,ys,cT.of hys⟩,?_⟩;refine⟨_,rfl,fun x dx0 hx hdx ndx=>?_⟩;have smX:Same H (upd (upd H dx0 (.own x)) x (.ins CL dx0 [])):=(a9 hdx).trans (a9 (by rw[bF (Ne.symm ndx)];exact hx));refine⟨x,dx0,p,v,b,bv,z,rfl,a7,W.same smX,hw,w2,hne,hden,fun H2 bt LA=>⟨rfl,?_⟩⟩;have tF:Same H H2:=Same.made hx hdx fun c o e n=>bt c o e n;have G2:=G.same tF;have inS:∀ c,(c=p∨c=v.aside∨c=v.loops∨c=v.layers)→∃ u,H c=some u:=fun c hc=>by
   obtain⟨d,h0⟩:=G.at_;refine aA G.lps fun ls h1 _=>?_;rcases hc with rfl | rfl | rfl | rfl
   ·exact⟨_,h0⟩
   ·exact⟨_,G.zG⟩
   ·exact⟨_,h1⟩
   ·exact⟨_,hys⟩
  have LA2:jO CL (tG H0 (mask H2 p v.aside v.loops v.layers)) x t.at_ t.kind t.before t.layer:=by
   rw[t1,t2,t3,t4];refine LA.same fun c o e=>?_;obtain⟨e1,e2⟩:=Y4 e;have hc0:H c=none:=by
    rcases e1 with rfl | e1
    ·exact hx
    ·exact smX.free e1
   refine pR ?_ ?_
   ·cases e3:H0 c with
    | none=>rfl
    | some u=>
     have:=(BG (G.base c u e3)).2;rw[hc0] at this;cases this
   rw[rQ]
   ·exact e2
   ·intro hc;obtain⟨u,hu⟩:=inS c hc;rcases e1 with rfl | e1
    ·rw[hx] at hu;cases hu
    ·rw[smX _ _ hu] at e1;cases e1
  have G3:=G2.aEF (tF _ _ hys) LA2;obtain⟨PZ,hp3⟩:=G3.at_;refine⟨ys,tF _ _ hys,?_,?_⟩
  ·rw[hYA.1,sizeLine_eq];lia
  walk_at"0";refine⟨C,PZ,_,hp3,TW.cl,TW.done,_,v.WK,p,v,b,bv,z,Hs,s,t,rfl,G3.wk,G3.bw,hw,ht,by rw[t4];exact w5,?_⟩;walk_at"0";refine⟨PZ,_,hp3,by show 12<1000;decide,?_⟩;rw[←Int.natCast_add,v.aDN];have G4:=G3.aAT (dx:=PZ) (v':={v with dn:=v.dn+t.cost}) (z':=z) rfl rfl rfl rfl rfl G.w G.times rfl rfl G.spot;generalize hH4:upd (upd H2 v.layers (.lst (ys++[.ref x]))) p (.ins C PZ (WV.fs {v with dn:=v.dn+t.cost}))=H4 at G4;have F:=G4.wk.rd TW;walk_at"2";refine⟨p,_,b,bv,z,Hs,s,t,rfl,G4.wk,G4.bw,hw,ht,by rw[t4];exact w5,?_⟩;walk_at"0";refine⟨_,_,⟨rfl,rfl⟩,?_⟩;obtain⟨dx4,UQ⟩:=G4.at_;refine cO UQ TW.cl TW.need (by show 12<1000;decide) ?_;rw[show (if ((gP t:Nat):Int)>((v.need:Nat):Int) then ((gP t:Nat):Int) else ((v.need:Nat):Int))=((max v.need (gP t):Nat):Int) from by split <;> lia,WV.aBh];have G5:=G4.aAT (dx:=dx4) (v':={v with dn:=v.dn+t.cost,need:=max v.need (gP t)}) (z':=z) rfl rfl rfl rfl rfl G.w G.times rfl rfl G.spot;generalize hv5:({v with dn:=v.dn+t.cost,need:=max v.need (gP t)}:WV)=v5 at G5;have e5:v5.place=v.place∧v5.win=v.win∧v5.w=v.w∧v5.dn=v.dn+t.cost∧v5.need=max v.need (gP t)∧v5.net=v.net∧v5.below=v.below∧v5.aside=v.aside∧v5.loops=v.loops∧v5.layers=v.layers:=by
   rw[←hv5];exact⟨rfl,rfl,rfl,rfl,rfl,rfl,rfl,rfl,rfl,rfl⟩
  generalize hH5:upd H4 p (.ins C dx4 v5.fs)=H5 at G5;(refine aK e5 fun e51 e52 e53 e54 e55 cA=>?_;refine aL cA fun e56 e57 e58 e59 e60=>?_);walk_at"0";refine⟨p,v5,b,bv,z,rfl,G5.wk,by rw[e51];exact w1,?_⟩;walk_at"0";refine⟨p,v5,b,bv,z,rfl,G5.wk,by rw[e51];exact hw,by rw[e51];exact hne,?_⟩;rw[e51,←t4];generalize hen:v.place+1+Br.behind (BM.bytesOf b) z.w v.place=en at q;generalize hnw:(z.next t.layer).w=nw;have r0:∀ l:List Nat,l≠[]→(nums l.reverse)[(nums l.reverse).length-1]?=some (V.int (l.headD 0:Nat)):=fun l hl=>by
   cases l with
   | nil=>exact absurd rfl hl
   | cons a r=>
    rw[bM,aFj,List.length_cons,Nat.add_sub_cancel,mG (by rw[aFj,List.length_cons];lia),aFr,aFe,aFu (by rw[aFj];exact aFi _),aFj,Nat.sub_self];rfl
  have dl:∀ l:List Nat,(nums l.reverse).dropLast=nums (l.drop 1).reverse:=fun l=>by
   cases l with
   | nil=>rfl
   | cons a r=>
    unfold nums;rw[aFr,aFC,List.map_cons,List.map_nil,List.dropLast_concat];rfl
  have ap:∀ (l:List Nat) (x:Nat),nums l.reverse++[V.int (x:Nat)]=nums (x::l).reverse:=fun l x=>by rw[wT,aFr]
  have hSO:=BM.wW G.spot w4 w5;rw[←t4] at hSO;walk_at"0";refine⟨fun σ' H'=>σ'=[some (.ref p),some (.int k),some (.int en),some (.int nw)]∧vJ C CL H0 H' p v5 b bv (zA k z) Hs s (ts++[t]),?_,?_⟩
  ·have F:=G5.wk.rd TW;walk_at"2";refine AH (n:=4) (fun c=>?_) (fun c=>?_)
   ·subst c;refine⟨.inl ⟨rfl,_,cT.of G5.zG⟩,_,G5.zG,?_,?_⟩
    ·have:=G.FS;rw[bM,aFj,sizeLine_eq];lia
    ·rw[e53,G.w,ap];have hl:z.aside.length<16:=by
      have UM:=w5;simp only[Br.layerOf,hk] at UM;have:decide (16≤z.aside.length)=false:=UM;have:=of_decide_eq_false this;lia
     exact G5.aAU ⟨G.spot.1,G.spot.2.1,fun a ha=>by
      rcases aEZ.mp ha with rfl | ha
      ·exact⟨G.spot.1,G.spot.2.1⟩
      ·exact G.spot.2.2 a ha⟩ (by rw[List.length_cons];lia)
   ·unfold zA;rw[if_neg c];exact G5
  rintro σ' H6 ⟨rfl,G6⟩;walk_at"0";refine⟨fun σ' H'=>σ'=[some (.ref p),some (.int k),some (.int en),some (.int nw)]∧vJ C CL H0 H' p v5 b bv (zB k z) Hs s (ts++[t]),?_,?_⟩
  ·walk_at"2";refine⟨by decide,fun pt hpt=>in_nums [5,6,11,12] ?_⟩;have G7:=G6.same (a9 (o:= .tup [V.int 5,V.int 6,V.int 11,V.int 12]) hpt);generalize upd H6 pt (.tup [V.int 5,V.int 6,V.int 11,V.int 12])=H7 at G7 ⊢;have F:=G7.wk.rd TW;walk_at"2";refine cZ (fun c=>?_) (fun c=>?_)
   ·have hm:k=5∨k=6∨k=11∨k=12:=by simpa using aFf c
    have ezA:zA k z=z:=by
     unfold zA;rw[if_neg (by lia)]
    rw[ezA] at G7;have hnz:z.aside≠[]:=fun e=>by
     have UM:=w5;rcases hm with rfl | rfl | rfl | rfl
     ·simp only[Br.layerOf,hk] at UM;have:(z.aside.head? !=some z.w)=false:=UM;rw[e] at this;cases this
     ·simp only[Br.layerOf,hk] at UM;have:(z.aside.head? !=some z.w)=false:=UM;rw[e] at this;cases this
     ·exact hne (.inl hk) e
     ·exact hne (.inr hk) e
    refine⟨.inl ⟨rfl,_,cT.of G7.zG⟩,v5.aside,_,_,rfl,rfl,G7.zG,r0 _ hnz,?_⟩;rw[dl];have:=G7.aAU (as:=z.aside.drop 1) ⟨G.spot.1,G.spot.2.1,fun a ha=>G.spot.2.2 a (List.mem_of_mem_drop ha)⟩ (by have:=G.FS;rw[aFp];lia);unfold zB;rw[if_pos hm,ezA];exact this
   ·have hm:¬(k=5∨k=6∨k=11∨k=12):=fun z=>c (aFc (by simpa using z));unfold zB;rw[if_neg hm];exact G7
  rintro σ' H8 ⟨rfl,G8⟩;walk_at"0";refine⟨fun σ' H'=>σ'=[some (.ref p),some (.int k),some (.int en),some (.int nw)]∧vJ C CL H0 H' p v5 b bv (zC k z) Hs s (ts++[t]),?_,?_⟩
  ·have F:=G8.wk.rd TW;walk_at"2";refine AH (n:=11) (fun c=>?_) (fun c=>?_)
   ·subst c;have hal:=G8.FS;have aEV:=G.FS;have ezB:zB 11 z={z with aside:=z.aside.drop 1}:=rfl;rw[ezB] at G8;refine⟨.inl ⟨rfl,_,cT.of G8.zG⟩,_,G8.zG,?_,?_⟩
    ·rw[bM,aFj,sizeLine_eq,aFp];lia
    ·rw[e53,G.w,ap];have hnz:=hne (.inl hk);have:=G8.aAU (as:=z.w::z.aside.drop 1) ⟨G.spot.1,G.spot.2.1,fun a ha=>by
      rcases aEZ.mp ha with rfl | ha
      ·exact⟨G.spot.1,G.spot.2.1⟩
      ·exact G.spot.2.2 a (List.mem_of_mem_drop ha)⟩ (by
       have:=List.length_pos_iff.mpr hnz;rw[List.length_cons,aFp];lia)
     exact this
   ·unfold zC;rw[if_neg c];exact G8
  rintro σ' H9 ⟨rfl,G9⟩;have hr1:k=14→v.place+1<b.length:=fun c=>by
   have h3:=w3;rw[fP,hk,c,if_neg (fun z=>absurd z.1 (by decide)),show x9 14=1 from rfl] at h3;lia
  walk_at"0";refine⟨fun σ' H'=>σ'=[some (.ref p),some (.int k),some (.int en),some (.int nw)]∧∃ tm,vJ C CL H0 H' p {v5 with times:=tm} b bv (zD k (Br.le (BM.bytesOf b) (v.place+1) 1) z) Hs s (ts++[t]),?_,?_⟩
  ·have F:=G9.wk.rd TW;walk_at"2";refine AH (n:=14) (fun c=>?_) (fun c=>?_)
   ·subst c;have ezC:zC 14 z=z:=rfl;rw[ezC] at G9;refine aA G9.lps fun ls hls hLR=>?_;refine⟨.inl ⟨rfl,_,cT.of hls⟩,_,.inl (cT.of G9.zG),fun l hl=>⟨by decide,fun tt htt=>?_⟩⟩;have s1:=a9 (o:= .lst (nums z.aside.reverse)) hl;have s2:=s1.trans (a9 (o:= .tup [V.int (v5.times:Nat),V.int (v5.w:Nat),V.ref l]) htt);have hl2:(upd (upd H9 l (.lst (nums z.aside.reverse))) tt (.tup [V.int (v5.times:Nat),V.int (v5.w:Nat),V.ref l])) l=some (.lst (nums z.aside.reverse)):=by
     rw[bF (fun z'=>by rw[←z',a7] at htt;cases htt)];exact a7
    have ht2:=a7 (H:=upd H9 l (.lst (nums z.aside.reverse))) (a:=tt) (o:= .tup [V.int (v5.times:Nat),V.int (v5.w:Nat),V.ref l]);have aEh:H9 tt=none:=s1.free htt;have XU:=G9.same s2;generalize upd (upd H9 l (.lst (nums z.aside.reverse))) tt (.tup [V.int (v5.times:Nat),V.int (v5.w:Nat),V.ref l])=H10 at XU hl2 ht2 s2 ⊢;have F:=XU.wk.rd TW;obtain⟨Z2,aCF⟩:=XU.at_;have nSl:∀ c,H9 c=none→¬(c=p∨c=v5.aside∨c=v5.loops∨c=v5.layers):=fun c hc z'=>by
     obtain⟨d,h0⟩:=G9.at_;refine aA G9.ZG fun ys' h1 _=>?_;rcases z' with rfl | rfl | rfl | rfl
     ·rw[h0] at hc;cases hc
     ·rw[G9.zG] at hc;cases hc
     ·rw[hls] at hc;cases hc
     ·rw[h1] at hc;cases hc
    have npl:=XU.npa;refine⟨_,s2 _ _ hls,?_,?_⟩
    ·have:=hLR.len;have hlo:=G.llen;rw[aFj,sizeLine_eq];lia
    refine⟨C,Z2,v5.fs,by rw[bF (Ne.symm npl.2.1)];exact aCF,TW.cl,TW.times,_,v5.RJ,?_⟩;have aCE:(upd H10 v5.loops (.lst (ls.reverse++[V.ref tt]))) p=some (.ins C Z2 v5.fs):=by rw[bF (Ne.symm npl.2.1)];exact aCF
    have F:=kN aCE TW;walk_at"2";have aCD:=BM.dB (B:=256) (by decide) G.bytes (v.place+1);have er:Br.le (BM.bytesOf b) (v.place+1) 1=b.getD (v.place+1) 0:=BM.ZI G.bytes (hr1 rfl);have aEp:(upd H10 v5.loops (.lst (ls.reverse++[V.ref tt]))) v5.net=some (.lst (nums b)):=by
     rw[bF (fun z'=>?_)]
     ·exact XU.wk.net
     ·have:=XU.base _ _ XU.net;rw[z',JG (.inr (.inr (.inl rfl)))] at this;cases this
    refine⟨_,cT.of aEp,_,cW (i:=v.place+1) (hr1 rfl) (by lia),_,rfl,.inr ⟨by lia,by lia⟩,Z2,_,aCE,by show 12<1000;decide,?_⟩;rw[←aFw,v5.Q8];have LR2:hW (mask H10 p v5.aside v5.loops v5.layers) (V.ref tt::ls) ((z.often*b.getD (v.place+1) 0,z.w,z.aside)::z.loops):=by
     refine⟨⟨tt,l,rfl,?_,?_⟩,hLR.same (sV s2)⟩
     ·rw[rQ (nSl tt aEh),ht2,XU.times,XU.w];have:z.often=BM.L6 z.loops:=by
       unfold Br.Spot.often;cases z.loops <;> rfl
      rw[this]
     ·rw[rQ (nSl l hl)];exact hl2
    have G11:=XU.aCm (dx:=Z2) (v':={v5 with times:=v5.times*b.getD (v.place+1) 0}) LR2 (by show v5.times*_=z.often*_;rw[XU.times]) (by have:=G.llen;rw[List.length_cons,aFb,List.length_cons,List.length_nil];lia) rfl rfl rfl rfl rfl rfl;rw[aFr] at G11;refine⟨v5.times*b.getD (v.place+1) 0,?_⟩;rw[er];exact G11
   ·refine⟨v5.times,?_⟩;unfold zD;rw[if_neg c];exact G9
  rintro σ' H12 ⟨rfl,tm,G12⟩;walk_at"0";refine⟨fun σ' H'=>σ'=[some (.ref p),some (.int k),some (.int en),some (.int nw)]∧∃ tm,vJ C CL H0 H' p {v5 with times:=tm} b bv (zE k (Br.le (BM.bytesOf b) (v.place+1) 1) z) Hs s (ts++[t]),?_,?_⟩
  ·have F:=G12.wk.rd TW;walk_at"2";refine AH (n:=15) (fun c=>?_) (fun c=>?_)
   ·subst c;have ezD:zD 15 (Br.le (BM.bytesOf b) (v.place+1) 1) z=z:=rfl;rw[ezD] at G12;refine aA G12.lps fun ls hls hLR=>?_
    cases ez:z.loops with
    | nil=>
     exfalso;have w6':=w6;simp only[Br.layerOf,hk] at w6';have:(match z.loops with | []=>true | x::_=>decide (x.2≠(z.w,z.aside)))=false:=w6';rw[ez] at this;cases this
    | cons e es=>
     rw[ez] at hLR
     cases ls with
     | nil=>exact hLR.elim
     | cons y r=>
      obtain⟨⟨tt,l,rfl,h1,h2⟩,hR⟩:=hLR;obtain⟨aEB,aEm⟩:=G12.at_;have npl:=G12.npa;have nt:tt≠v5.loops:=fun z'=>by
       rw[z',JG (.inr (.inr (.inl rfl)))] at h1;cases h1
      refine⟨.inl ⟨rfl,_,cT.of hls⟩,v5.loops,_,V.ref tt,rfl,rfl,hls,?_,?_⟩
      ·rw[aFj,List.length_cons,Nat.add_sub_cancel,aFr,aFu (by rw[aFj];exact aFi _),aFj,Nat.sub_self];rfl
      ·walk_at"0";refine⟨_,gF.of (by rw[bF nt];exact(BG h1).2),V.int (BM.L6 es:Nat),rfl,?_⟩;refine cO (by rw[bF (Ne.symm npl.2.1)];exact aEm) TW.cl TW.times (by show 12<1000;decide) ?_;rw[aFr,List.dropLast_concat,WV.Q8];refine⟨BM.L6 es,?_⟩;have:=G12.aCm (dx:=aEB) (v':={v5 with times:=BM.L6 es}) hR rfl (by have:=G12.llen;rw[ez,List.length_cons] at this;lia) rfl rfl rfl rfl rfl rfl;unfold zE;rw[if_pos rfl,ezD,ez];exact this
   ·refine⟨tm,?_⟩;unfold zE;rw[if_neg c];exact G12
  rintro σ' H13 ⟨rfl,tm,G13⟩;obtain⟨aEA,aEk⟩:=G13.at_;walk_at"0";refine cO aEk TW.cl TW.ended (by show 12<1000;decide) ?_;walk_at"0";refine cO a7 TW.cl TW.width (by show 12<1000;decide) ?_;rw[dD];walk_at"0";refine cO a7 TW.cl TW.place (by show 12<1000;decide) ?_;rw[dD,WV.Y0,WV.p_w,WV.YZ];have ezn:=X8 (b:=BM.bytesOf b) (z:=z) (p:=v.place) w2;rw[hk,←t4,hnw] at ezn;have hzE:(zE k (Br.le (BM.bytesOf b) (v.place+1) 1) z).aside=(z.next t.layer).aside∧(zE k (Br.le (BM.bytesOf b) (v.place+1) 1) z).loops=(z.next t.layer).loops:=by
   rw[←ezn];exact⟨rfl,rfl⟩
  refine q _ {v5 with times:=tm,ended:=decide ((k:Int)=0),w:=nw,place:=en} (G13.aAT (dx:=aEA) rfl rfl rfl rfl rfl hnw.symm ?_ hzE.1.symm hzE.2.symm hSO) rfl e52 e54 e55 ?_ e56 e57 e58 e59 e60
  ·have:=G13.times;show tm=_;rw[show tm=(zE k (Br.le (BM.bytesOf b) (v.place+1) 1) z).often from this];unfold Br.Spot.often;rw[hzE.2]
  ·show decide ((k:Int)=0)=decide (k=0);congr 1;exact propext ⟨fun h=>by lia,fun h=>by lia⟩
end
local macro_rules | `(tactic| walk_at"6")=>sm true ([]) (mV++mL++lK++eS++fO++eM)
abbrev K3:Stmt:=top 44
theorem yI:bJ ["net","below","walk","code"] ["net","below"] (bC K3):=bV (by kernel_rfl)
theorem ZF(a b c d:Nat)(h:b≤d):max (max a (max c b)) d=max (max a c) d:=by lia
theorem held_eq(t:Br.Told):t.held=max (gP t) (Br.total (t.before.next t.layer).aside+(t.before.next t.layer).w):=rfl
theorem MM(t:Br.Told):Br.total t.before.aside+t.before.w≤gP t:=by
 unfold gP;lia
theorem S6{Hs:Br.House}{s:Nat}{z:Br.Spot}{l:List Br.Told}(C:BM.Chain Hs s z l):∀ n,l.foldl (fun (n:Nat) (t:Br.Told)=>max n t.held) n=l.foldl (fun (n:Nat) (t:Br.Told)=>max n (gP t)) n:=by
 induction C with
 | last hb ho hl ha hw hn=>
  intro n;rename_i z t;show max n t.held=max n (gP t);have h1:=MM t;rw[held_eq,ho];show max n (max (gP t) (Br.total t.before.aside+t.before.w))=_;lia
 | cons hb ho h1 h2 h3 hl hn hh C ih=>
  intro n;rename_i z t r;show r.foldl _ (max n t.held)=r.foldl _ (max n (gP t));rw[ih];(refine aH (BM.jZ C) fun u r' bO hu=>?_;subst bO);show r'.foldl _ (max (max n t.held) (gP u))=r'.foldl _ (max (max n (gP t)) (gP u));have g:=MM u;rw[hu] at g;rw[held_eq,hb,ZF _ _ _ _ g]
theorem ZD{Hs:Br.House}{s:Nat}{N:Br.Net}(C:BM.Chain Hs s ⟨N.width,[],[]⟩ N.layers):N.need=N.layers.foldl (fun (n:Nat) (t:Br.Told)=>max n (gP t)) N.width:=S6 C _
def kT(C CL:Addr)(H:Hp)(p a bl:Addr)(N:Br.Net):Prop:=∃ dx u,H p=some (.ins C dx (WV.fs u))∧u.net=a∧u.below=bl∧u.win=N.width∧u.w=N.widthOut∧u.dn=N.work∧u.need=N.need∧∃ ys,H u.layers=some (.lst ys)∧sJ CL H ys N.layers
def aDf(C CL:Addr)(Ho H:Hp)(a bl:Addr)(x y:V):Except Br.Fault Br.Net→Prop
 | .error e=>∃ q,x= .ref q∧H q=some (.tup [.int e.1,.int (e.2:Nat)])
 | .ok N=>x= .non∧∃ p,y= .ref p∧kT C CL (tG Ho H) p a bl N
inductive yF(C CL:Addr)(vs:List V)(H:Hp)(Q:VK)(E:XK):Prop
 | mk (a bl:Addr) (b:List Nat) (bv:List V) (Hs:Br.House) (s:Nat) (_:vs=[.ref a,.ref bl]) (_:H a=some (.lst (nums b))) (_:(∀ x∈b,x<256)) (_:b.length≤40000) (_:H bl=some (.lst bv)) (_:iM C H bv Hs s) (_:∀ H' r x y,Same H H'→H' r=some (.tup [x,y])→aDf C CL H H' a bl x y (Br.judge Hs s (BM.bytesOf b))→Q (.ref r) H'):yF C CL vs H Q E
structure sH(Hs:Br.House)(s:Nat)(b:List Nat)(w0:Nat)(v:WV)(z:Br.Spot)(ts:List Br.Told):Prop where
 win:v.win=w0
 dn:v.dn=ts.foldl (fun (n:Nat) (t:Br.Told)=>n+t.cost) 0
 need:v.need=ts.foldl (fun (n:Nat) (t:Br.Told)=>max n (gP t)) w0
 len:ts.length+6≤v.place
 go:v.ended=false→∃ n,Br.judge Hs s (BM.bytesOf b)=(Br.readFrom Hs s (BM.bytesOf b) n z v.place v.dn).map (fun (l:List Br.Told)=>(⟨w0,ts++l⟩:Br.Net))∧b.length+1≤n+v.place
 done:v.ended=true→Br.judge Hs s (BM.bytesOf b)= .ok ⟨w0,ts⟩∧∃ ts0 t,ts=ts0++[t]∧v.w=t.before.w
theorem KK{Hs:Br.House}{s:Nat}{b:Br.Bytes}{z:Br.Spot}{p dn:Nat}{e:Br.Fault}(h:Br.wrongAt Hs s b z p dn=some e):e.1≠0∧e.2=if e.1= -8 then p+1 else p:=by
 unfold Br.wrongAt at h
 split at h
 ·cases h;exact⟨by dsimp only;decide,rfl⟩
 split at h
 ·cases h;exact⟨by dsimp only;decide,rfl⟩
 dsimp only at h
 split at h
 ·cases h;exact⟨by dsimp only;decide,rfl⟩
 split at h
 ·cases h;exact⟨by dsimp only;decide,rfl⟩
 split at h
 ·cases h;exact⟨by dsimp only;decide,rfl⟩
 split at h
 ·cases h;exact⟨by dsimp only;decide,rfl⟩
 split at h
 ·cases h;exact⟨by dsimp only;decide,rfl⟩
 split at h
 ·cases h;exact⟨by dsimp only;decide,rfl⟩
 ·cases h
theorem SB{Hs:Br.House}{s:Nat}{b:Br.Bytes}{z:Br.Spot}{p dn:Nat}(h:b.length≤p):Br.wrongAt Hs s b z p dn=some (-3,p):=by
 unfold Br.wrongAt;rw[if_pos (.inl h)]
theorem sH.fault{Hs:Br.House}{s:Nat}{b:List Nat}{w0:Nat}{v:WV}{z:Br.Spot}{ts:List Br.Told}(R:sH Hs s b w0 v z ts)(he:v.ended=false){e:Br.Fault}(h:Br.wrongAt Hs s (BM.bytesOf b) z v.place v.dn=some e):Br.judge Hs s (BM.bytesOf b)= .error e:=by
 refine aA (R.go he) fun n h1 h2=>?_;rw[h1]
 cases n with
 | zero=>
  rw[SB (by rw[BM.dY];lia)] at h;cases h;rfl
 | succ n=>
  unfold Br.readFrom;rw[h];rfl
theorem sH.next{Hs:Br.House}{s:Nat}{b:List Nat}{w0:Nat}{v v':WV}{z:Br.Spot}{ts:List Br.Told}{t:Br.Told}(R:sH Hs s b w0 v z ts)(he:v.ended=false)(h:Br.wrongAt Hs s (BM.bytesOf b) z v.place v.dn=none)(ht:Br.toldAt Hs s (BM.bytesOf b) z v.place=some t)
  (e1:v'.place=v.place+1+Br.behind (BM.bytesOf b) z.w v.place) (e2:v'.win=v.win) (e3:v'.dn=v.dn+t.cost) (e4:v'.need=max v.need (gP t)) (e5:v'.ended=decide (Br.kindAt (BM.bytesOf b) v.place=0)) (e6:v'.w=(z.next t.layer).w):sH Hs s b w0 v' (z.next t.layer) (ts++[t]):=by
 refine aA (R.go he) fun n h1 h2=>?_;obtain⟨w1,_⟩:=BM.jP h;rw[BM.dY] at w1;refine aL (BM.gH ht) fun _ _ t3 t4 _=>?_
 cases n with
 | zero=>lia
 | succ n=>
  unfold Br.readFrom at h1;rw[h,ht] at h1;dsimp only at h1;refine⟨e2.trans R.win,?_,?_,?_,fun c=>?_,fun c=>?_⟩
  ·rw[e3,R.dn,List.foldl_append];rfl
  ·rw[e4,R.need,List.foldl_append];rfl
  ·have:=R.len;rw[aFb,List.length_cons,List.length_nil];lia
  ·rw[e5] at c;rw[if_neg (of_decide_eq_false c)] at h1;refine⟨n,?_,by lia⟩;rw[h1,e1,e3]
   cases Br.readFrom Hs s (BM.bytesOf b) n (z.next t.layer) (v.place+1+Br.behind (BM.bytesOf b) z.w v.place) (v.dn+t.cost) with
   | error e=>rfl
   | ok l=>
    show Except.ok (⟨w0,ts++(t::l)⟩:Br.Net)=Except.ok ⟨w0,ts++[t]++l⟩;rw[aFJ];rfl
  ·rw[e5] at c;have c':=aFf c;rw[if_pos c'] at h1;refine⟨h1,ts,t,rfl,?_⟩;have el:t.layer= .out:=by rw[t4];exact BM.D1.mpr c'
   rw[e6,el,t3];rfl
def dTup(l:List Nat):PyData:= .tuple (l.map fun (n:Nat)=>PyData.int (n:Int))
theorem BX(l:List Nat):SeqAt.shaped (dTup l)=true:=by
 unfold SeqAt.shaped dTup;simp [PyData.canLay0,PyData.depth,DY,vI]
theorem YD(l m:List Nat):PyData.eqv (dTup l) (dTup m)=decide (l=m):=by
 unfold dTup;rw[PyData.eqv,EF]
theorem XE{l:List Nat}{n:Nat}(h:n≤l.length):mN (nums l) none (some (n:Int))=nums (l.take n):=by
 unfold mN;rw[show HT.jC (nums l).length 0 none=0 from rfl,HT.pJ,bM,Nat.min_eq_left h,Nat.sub_zero,List.drop_zero];unfold nums;rw[List.map_take]
theorem vE{Hs:Br.House}{s:Nat}{b:List Nat}(hb:∀ x∈b,x<256)(h:b.length<6∨16384<b.length∨b.take 4≠[66,82,78,49]):Br.judge Hs s (BM.bytesOf b)= .error (-1,0):=by
 unfold Br.judge Br.LARGEST;rw[if_pos];rw[BM.dY];rcases h with h | h | h
 ·exact .inl h
 ·exact .inr (.inl h)
 ·exact .inr (.inr fun z=>h ((BM.MD hb).mp z))
theorem PN{Hs:Br.House}{s:Nat}{b:List Nat}(hb:∀ x∈b,x<256)(h:¬(b.length<6∨16384<b.length∨b.take 4≠[66,82,78,49])):
  Br.judge Hs s (BM.bytesOf b)=if Br.sizeOk (Br.le (BM.bytesOf b) 4 2)=false then .error (-2,0) else (Br.readFrom Hs s (BM.bytesOf b) (b.length+1) ⟨Br.le (BM.bytesOf b) 4 2,[],[]⟩ 6 0).map fun (l:List Br.Told)=>⟨Br.le (BM.bytesOf b) 4 2,l⟩:=by
 unfold Br.judge Br.LARGEST;rw[BM.dY,if_neg];intro z;apply h;rcases z with z | z | z
 ·exact .inl z
 ·exact .inr (.inl z)
 ·exact .inr (.inr fun e=>z ((BM.MD hb).mpr e))
def JW(C CL:Addr)(H:Hp)(a bl x:Addr)(b:List Nat)(bv:List V)(Hs:Br.House)(s w0:Nat)(m:Nat)(σ':L2.St)(H':Hp):Prop:=∃ c v z ts,σ'=[some (.ref a),some (.ref bl),some (.ref x),c]∧vJ C CL H H' x v b bv z Hs s ts∧sH Hs s b w0 v z ts∧v.net=a∧v.below=bl∧m=if v.ended=true then 0 else b.length+1-v.place
def JE(C CL:Addr)(H:Hp)(a bl x:Addr)(b:List Nat)(bv:List V)(Hs:Br.House)(s w0:Nat)(σ':L2.St)(H':Hp):Prop:=∃ c v z ts,σ'=[some (.ref a),some (.ref bl),some (.ref x),c]∧vJ C CL H H' x v b bv z Hs s ts∧sH Hs s b w0 v z ts∧v.net=a∧v.below=bl∧v.ended=true
theorem sS{H H1:Hp}{Q:VK}{C CL a bl:Addr}{J:Except Br.Fault Br.Net}{c:Int}{n:Nat}{y:V}(q:∀ H' r x y,Same H H'→H' r=some (.tup [x,y])→aDf C CL H H' a bl x y J→Q (.ref r) H')(sm:Same H H1)(hj:J= .error (c,n)){cn:Int}(ec:cn=(n:Int):=by rfl):
  2≤sizeLine∧∀ p,H1 p=none→2≤sizeLine∧∀ r,upd H1 p (.tup [.int c,.int cn]) r=none→Q (.ref r) (upd (upd H1 p (.tup [.int c,.int cn])) r (.tup [.ref p,y])):=by
 refine⟨by decide,fun p hp=>⟨by decide,fun r hr=>?_⟩⟩;subst ec;have s1:Same H1 (upd H1 p (.tup [.int c,.int (n:Int)])):=a9 hp;refine q _ r _ _ ((sm.trans s1).trans (a9 hr)) a7 ?_;rw[hj];exact⟨p,rfl,by rw[bF (fun z=>by rw[←z,a7] at hr;cases hr)];exact a7⟩
section
variable{P:Program}{w:World}{K:W.Frag}{mg:Str→Option Value}{base:Heap}{C CL:Addr}
theorem SZ(D:Def K mg "judged" K3 ["net","below"])(T:sE K mg)(TW:hU K C)(c7:Own P w K mg base "is_size" ["n"] 1 gJ)(oC:Own P w K mg base "layer_fault" ["walk"] 5 (lU C))(pU:Own P w K mg base "pass_layer" ["walk"] 7 (nR C CL))
  (QG:EV P w K mg base "Walk" C ["self","net","below"] 2 (pH C)):Own P w K mg base "judged" ["net","below"] 8 (yF C CL):=by
 refine D.own yI (fun vs H Q E h=>?_) (fun f cdv A outer s H vs Q E hr h=>?_)
 ·obtain⟨a,bl,b,bv,Hs,s,rfl,_⟩:=h;rfl
 ·obtain⟨a,bl,b,bv,Hs,s,rfl,ha,xE,hlen,xZ,B,q⟩:=h;refine aA T.MARK fun cM aBW hM=>?_;have aCM:=BM.dY b;refine⟨_,(aZ (dG (cE (PW.pt (jM (bU (wM (bY bQ (by rfl) T.len PySem.boot_len (aY (pv 0) a6)) (cH rfl T.HEAD))) (jM (bU (jN (bY bQ (by rfl) T.len PySem.boot_len (aY (pv 0) a6)) (cH rfl T.MOST_BYTES))) (k0 (BE (VW hr.units) (yO FR (by rfl) T.tuple PyProof.Rows.boot_tuple (aY (jE m9 (pv 0) wL (gU a8)) a6)) (GS rfl aBW) (by first | exact wV _ (by decide) (by decide) | rfl)))))) (bA (bI (fC (aY (fC (aY (fD dZ a8) (aY a8 a6))) (aY n9 a6))))) bT))
   (aZ (bK (i:=2) yI.nd rfl (Or.inl rfl) (DC QG hr (by decide) rfl (aY (pv 0) (aY (pv 1) a6))))
   (aZ (cE (jT (eO (bN c7 hr (by decide) rfl (aY (bB (pv 2) rfl) a6)))) (bA (bI (fC (aY (fC (aY (fD dZ a8) (aY a8 a6))) (aY n9 a6))))) bT)
   (aZ (dG (wK PassesOwn.never (jT (eO (bB (pv 2) rfl))) (aZ (bK (i:=3) yI.nd rfl (Or.inl rfl) (bN oC hr (by decide) rfl (aY (pv 2) a6)))
   (aZ (cE (bU (cY (pv 3) (fD dZ a8))) (bA (bI (fC (aY (fC (aY (pv 3) (aY (bH bX (bB (pv 2) rfl) a8) a6))) (aY (pv 2) a6))))) bT)
   (aZ (cE (bU (gO (pv 3) a8)) (bA (bI (fC (aY (fC (aY (pv 3) (aY (bB (pv 2) rfl) a6))) (aY (pv 2) a6))))) bT)
   (bA (dA (bN pU hr (by decide) rfl (aY (pv 2) a6)))))))))
   (bA (bI (fC (aY n9 (aY (pv 2) a6))))))))),?_⟩
  refine⟨fun σ' H'=>σ'=[some (.ref a),some (.ref bl),none,none]∧Same H H'∧¬(b.length<6∨16384<b.length∨b.take 4≠[66,82,78,49]),?_,?_⟩
  ·walk_at"6";refine⟨_,.inl (cT.of ha),?_⟩;rw[bM];refine cZ (fun c=>?_) (fun c=>⟨_,.inl (cT.of ha),?_⟩)
   ·have:=aFf c;exact sS q (Same.refl H) (vE xE (.inl (by lia)))
   have c6:6≤b.length:=by
    have:¬((b.length:Int)<6):=fun z=>c (aFc z);lia
   rw[bM];refine cZ (fun c=>?_) (fun c=>⟨_,cT.of ha,fun l4 hl4=>?_⟩)
   ·have:=aFf c;exact sS q (Same.refl H) (vE xE (.inr (.inl (by lia))))
   have c16:¬16384<b.length:=fun z=>c (aFc (by lia));rw[show (4:Int)=((4:Nat):Int) from rfl,XE (by lia)];have s1:Same H (upd H l4 (.lst (nums (b.take 4)))):=a9 hl4;refine⟨_,.inl ⟨cT.of a7,fun t4 ht4=>?_⟩⟩;have s2:=s1.trans (a9 (o:= .tup (nums (b.take 4))) ht4);refine⟨dTup (b.take 4),dTup [66,82,78,49],.tup (gF.of a7) (xL _),.tup (hM _) (xL [66,82,78,49]),BX _,BX _,?_⟩;rw[YD];walk_at"6";refine cZ (fun c=>?_) (fun c=>?_)
   ·refine sS q s2 (vE xE (.inr (.inr ?_)));exact of_decide_eq_false c
   ·refine⟨s2,fun z=>?_⟩;rcases z with z | z | z
    ·lia
    ·exact c16 z
    ·exact c (decide_eq_false z)
  rintro σ' H1 ⟨rfl,OD,hok⟩;have hJ:=PN (Hs:=Hs) (s:=s) xE hok;have c6:6≤b.length:=by
   have:¬b.length<6:=fun z=>hok (.inl z);lia
  have aEY:b.length≤16384:=by
   have:¬16384<b.length:=fun z=>hok (.inr (.inl z));lia
  generalize hw0:Br.le (BM.bytesOf b) 4 2=w0 at hJ;walk_at"6";refine⟨_,rfl,_,rfl,fun x dx hx hdx ndx=>?_⟩;have sX:Same H1 (upd (upd H1 dx (.own x)) x (.ins C dx [])):=(a9 hdx).trans (a9 (by rw[bF (Ne.symm ndx)];exact hx));refine⟨x,dx,a,bl,b,rfl,a7,sX _ _ (OD _ _ ha),c6,xE,fun H2 la lo ly bt hp2 la0 lo0 ly0 nal nay noy ha2 ho2 hy2=>⟨rfl,?_⟩⟩;have tF:Same H1 H2:=Same.made hx hdx fun c o e n=>bt c o e n;have sm:=OD.trans tF;rw[hw0] at hp2;have hx0:H x=none:=OD.free hx;have frX:∀ c,(upd (upd H1 dx (.own x)) x (.ins C dx [])) c=none→H c=none:=fun c hc=>OD.free (sX.free hc);have F:=kN hp2 TW;walk_at"1";refine⟨w0,rfl,?_⟩;walk_at"6";refine cZ (fun c=>?_) (fun c=>?_)
  ·rw[if_pos c] at hJ;exact sS q sm hJ
  have cs:Br.sizeOk w0=true:=by simpa using c
  rw[if_neg (by rw[cs];decide)] at hJ;have hsz:=size_le cs;have G0:vJ C CL H H2 x ⟨a,bl,la,lo,ly,6,w0,w0,1,0,w0,false⟩ b bv ⟨w0,[],[]⟩ Hs s []:=by
   refine⟨fun c o e=>?_,⟨dx,hp2⟩,ha,xZ,B,ha2,⟨[],ho2,trivial⟩,⟨[],hy2,rfl,fun i t e=>by cases e⟩,nal,nay,noy,rfl,rfl,xE,by lia,⟨hsz.1,hsz.2,fun y hy=>by cases hy⟩,aFx _,aFx _⟩;rw[rQ]
   ·exact sm _ _ e
   ·rintro(rfl | rfl | rfl | rfl)
    ·rw[hx0] at e;cases e
    ·rw[frX _ la0] at e;cases e
    ·rw[frX _ lo0] at e;cases e
    ·rw[frX _ ly0] at e;cases e
  have R0:sH Hs s b w0 ⟨a,bl,la,lo,ly,6,w0,w0,1,0,w0,false⟩ ⟨w0,[],[]⟩ []:=⟨rfl,rfl,rfl,aFi 6,fun _=>⟨b.length+1,hJ,by show b.length+1≤b.length+1+6;lia⟩,fun z=>Bool.noConfusion (show false=true from z)⟩;walk_at"1";refine⟨JE C CL H a bl x b bv Hs s w0,?_,?_⟩
  ·refine⟨JW C CL H a bl x b bv Hs s w0,⟨_,none,_,_,[],rfl,G0,R0,rfl,rfl,rfl⟩,?_⟩;rintro m σ' H' ⟨c,v,z,ts,rfl,G,R,en,eb,em⟩;have F:=G.wk.rd TW;walk_at"1";refine cZ (fun ce=>?_) (fun ce=>⟨c,v,z,ts,rfl,G,R,en,eb,by simpa using ce⟩);rw[ce] at em;have em':m=b.length+1-v.place:=em;have hlt:=R.len;refine⟨fun σ' H'=>∃ m',m'<m∧JW C CL H a bl x b bv Hs s w0 m' σ' H',fun σ' H' h=>h,?_⟩;refine⟨_,_,_,_,_,_,_,rfl,G.wk,G.bw,fun H3 sm3=>?_⟩;have G3:=G.same sm3;have F:=G3.wk.rd TW;have smA:Same H H3:=G3.base.trans lP
   cases ew:Br.wrongAt Hs s (BM.bytesOf b) z v.place v.dn with
   | some e=>
    have hj:=R.fault ce ew;obtain⟨c0,pl⟩:=e;obtain⟨p1,p2⟩:=KK ew;have p1':c0≠0:=p1;have p2':pl=if c0= -8 then v.place+1 else v.place:=p2
    show i1 (V.int c0) _;walk_at"1";refine cZ (fun c8=>?_) (fun c8=>?_)
    ·have c8':=aFf c8;rw[if_pos c8'] at p2';exact sS q smA hj (by rw[p2'];rfl)
    ·rw[if_neg (fun z=>c8 (aFc z))] at p2';refine cZ (fun _=>sS q smA hj (by rw[p2'])) (fun c9=>absurd (decide_eq_false p1') c9)
   | none=>
    (refine aK (BM.jP ew) fun w1 w2 w3 _ _ bO=>?_;refine aF bO fun _ _ cA=>?_;refine aA cA fun t ht _=>?_);rw[BM.dY] at w1 w3;show i1 (V.int 0) _;walk_at"1";rw[if_neg (by decide),if_neg (by decide)];refine⟨H,x,v,b,bv,z,Hs,s,ts,t,rfl,G3,by lia,ew,ht,fun H4 v' G4 e1 e2 e3 e4 e5 e6 e7 e8 e9 e10=>?_⟩;refine⟨_,?_,_,v',_,_,rfl,G4,R.next ce ew ht e1 e2 e3 e4 e5 G4.w,e6.trans en,e7.trans eb,rfl⟩;rw[em',e1]
    split <;> lia
  ·rintro σ' H3 ⟨c,v,z,ts,rfl,G,R,en,eb,ce⟩;walk_at"1";(refine aD (R.done ce) fun hj dF=>?_;refine aH dF fun ts0 t ets ew=>?_);obtain⟨PZ,hp⟩:=G.at_;refine aA G.ZG fun ys hy hYA=>?_;walk_at"6";refine⟨by decide,fun r hr=>?_⟩;have s1:Same H3 (upd H3 r (.tup [V.non,V.ref x])):=a9 hr;refine q _ r _ _ ((G.base.trans lP).trans s1) a7 ?_;rw[hj];have CH:=(BM.iX hj).1;have aCv:∀ c,(c=x∨c=v.aside∨c=v.loops∨c=v.layers)→H c=none:=fun c hc=>by
    cases e3:H c with
    | none=>rfl
    | some u=>
     have:=G.base c u e3;rw[JG hc] at this;cases this
   refine⟨rfl,x,rfl,PZ,v,pR (aCv _ (.inl rfl)) (s1 _ _ hp),en,eb,R.win,?_,?_,?_,ys,pR (aCv _ (.inr (.inr (.inr rfl)))) (s1 _ _ hy),hYA.same (GV (lP.trans s1))⟩
   ·rw[ew];unfold Br.Net.widthOut;show _=(match ts.getLast? with | some t=>t.before.w | none=>0);rw[ets,List.getLast?_append];rfl
   ·rw[R.dn];rfl
   ·rw[ZD CH,R.need]
end
local macro_rules | `(tactic| walk_at"0")=>sm false ([]) (mV++mL++lK++eS++fO++eM)
local macro_rules | `(tactic| walk_at"2")=>sm false (ZZ) (mV++mL++lK++eS++fO++eM)
abbrev GJ:Stmt:=top 12
theorem OI:bJ ["x"] ["x"] (bC GJ):=bV (by kernel_rfl)
abbrev zU:Stmt:=top 13
theorem vQ:bJ ["number","spare"] ["number"] (bC zU):=bV (by kernel_rfl)
abbrev v4:Stmt:=top 79
theorem nX:bJ ["singles","first","count","i","x"] ["singles","first","count"] (bC v4):=bV (by kernel_rfl)
inductive uS(vs:List V)(H:Hp)(Q:VK)(E:XK):Prop
 | mk (x:Nat) (_:vs=[.int x]) (_:x<4294967296) (_:Q (.int (Br.clamped x:Nat)) H):uS vs H Q E
inductive pG(vs:List V)(H:Hp)(Q:VK)(E:XK):Prop
 | mk (n:Nat) (_:vs=[.int n]) (_:n<64) (_:Q (.int (Br.wholeSingle n:Nat)) H):pG vs H Q E
theorem UW:∀ n:Fin 64,n.val≠0→((149-(24-(Builtin.Int.intBits (n.val:Int):Int)))*2 ^ 23+(n.val:Int)*2 ^ (24-(Builtin.Int.intBits (n.val:Int):Int)).toNat=(Br.wholeSingle n.val:Nat))∧0≤24-(Builtin.Int.intBits (n.val:Int):Int)∧24-(Builtin.Int.intBits (n.val:Int):Int)≤24:=by decide +kernel
section
variable{P:Program}{w:World}{K:W.Frag}{mg:Str→Option Value}{base:Heap}
theorem O3(D:Def K mg "clamped" GJ ["x"])(T:Txt K mg)(hB:K.In base):∃ f,mg "clamped"=some (.ref f)∧FnB P w K mg base f ["x"] 1 uS:=by
 refine D.aDO hB OI (fun vs H Q E h=>?_) (fun f cdv A outer s H vs Q E hr h=>?_)
 ·obtain⟨x,rfl,_⟩:=h;rfl
 ·obtain⟨x,rfl,hx,k⟩:=h;refine⟨_,(bA (bI (iE (wJ (bH gB (pv 0) (cH rfl T.SIGN)) (fun _=>rfl)) a8 (pv 0)))),?_⟩;walk_at"0";refine⟨_,rfl,?_⟩;rw[yA];unfold Br.clamped at k;rw[BM.gW] at k;by_cases c:x / 2147483648 % 2=1
  ·rw[if_pos (aFc c)] at k;rw[c];exact aBA k
  ·rw[if_neg (by simpa using c)] at k;rw[show x / 2147483648 % 2=0 from by lia];exact aBB k
theorem IQ(D:Def K mg "single_of" zU ["number"]):Own P w K mg base "single_of" ["number"] 1 pG:=by
 refine D.own vQ (fun vs H Q E h=>?_) (fun f cdv A outer s H vs Q E hr h=>?_)
 ·obtain⟨x,rfl,_⟩:=h;rfl
 ·obtain⟨n,rfl,hn,k⟩:=h;refine⟨_,(aZ (cE (bU (cY (pv 0) a8)) (bA (bI a8)) bT)
   (aZ (bK (i:=1) vQ.nd rfl (Or.inl rfl) (bH eU a8 (GT (pv 0))))
   (bA (bI (bH bX (bH rL (bH eU a8 (pv 1)) a8) (bH rL (pv 0) (pv 1))))))),?_⟩
  walk_at"0";refine AH (n:=0) (fun c=>?_) (fun c=>?_)
  ·subst c;exact k
  ·have h:=UW ⟨n,hn⟩ c;refine aF h fun h1 h2 h3=>?_;have h2':0≤24-(Builtin.Int.intBits (n:Int):Int):=h2;have h3':24-(Builtin.Int.intBits (n:Int):Int)≤24:=h3;have h1':(149-(24-(Builtin.Int.intBits (n:Int):Int)))*8388608+(n:Int)*2 ^ (24-(Builtin.Int.intBits (n:Int):Int)).toNat=(Br.wholeSingle n:Nat):=h1;refine⟨rfl,⟨by decide,by decide,by lia⟩,⟨h2',by lia,by lia⟩,?_⟩;rw[h1'];exact k
theorem uC{n j:Nat}{z:Int}(e:z=(j:Int))(h:j<n):RM n z=some j:=by
 subst e;unfold RM;rw[if_pos (by lia),if_pos (by lia),aFl]
def dQ(S:List Nat)(f c:Nat):List Nat:=S.take f++(((S.drop f).take c).reverse++S.drop (f+c))
structure Turned(S:List Nat)(f c i:Nat)(R:List Nat):Prop where
 len:R.length=S.length
 at_:∀ p,R.getD p 0=if (f≤p∧p<f+i)∨(f+c-i≤p∧p<f+c) then S.getD (2*f+c-1-p) 0 else S.getD p 0
theorem Turned.start(S:List Nat)(f c:Nat):Turned S f c 0 S:=⟨rfl,fun p=>by rw[if_neg (by lia)]⟩
theorem Turned.step{S R:List Nat}{f c i:Nat}(T:Turned S f c i R)(hi:i<c / 2)(hl:f+c≤S.length):Turned S f c (i+1) ((R.set (f+i) (R.getD (f+c-1-i) 0)).set (f+c-1-i) (R.getD (f+i) 0)):=by
 have hlen:=T.len;refine⟨by rw[List.length_set,List.length_set];exact hlen,fun p=>?_⟩;have hA:R.getD (f+i) 0=S.getD (f+i) 0:=by rw[T.at_,if_neg (by lia)]
 have hB:R.getD (f+c-1-i) 0=S.getD (f+c-1-i) 0:=by rw[T.at_,if_neg (by lia)]
 rw[BM.EB p (by rw[List.length_set];lia),BM.EB p (by lia),hA,hB];by_cases h1:f+c-1-i=p
 ·subst h1;rw[if_pos rfl,if_pos (by lia)];congr 1;lia
 ·rw[if_neg h1];by_cases h2:f+i=p
  ·subst h2;rw[if_pos rfl,if_pos (by lia)];congr 1;lia
  ·rw[if_neg h2,T.at_ p];by_cases h3:(f≤p∧p<f+i)∨(f+c-i≤p∧p<f+c)
   ·rw[if_pos h3,if_pos (by lia)]
   ·rw[if_neg h3,if_neg (by lia)]
theorem WZ{l:List Nat}{i:Nat}(h:i<l.length):l.reverse.getD i 0=l.getD (l.length-1-i) 0:=by
 rw[aFe,aFe,List.getElem?_reverse h]
theorem uW{S:List Nat}{f c:Nat}(hl:f+c≤S.length):(dQ S f c).length=S.length:=by
 unfold dQ;rw[aFb,aFb,aFj,aFq,aFq,aFp,aFp];lia
theorem SX{S:List Nat}{f c:Nat}(hl:f+c≤S.length)(p:Nat):(dQ S f c).getD p 0=if f≤p∧p<f+c then S.getD (2*f+c-1-p) 0 else S.getD p 0:=by
 have l1:(S.take f).length=f:=by rw[aFq];lia
 have l2:((S.drop f).take c).reverse.length=c:=by rw[aFj,aFq,aFp];lia
 have l3:((S.drop f).take c).length=c:=by rw[aFq,aFp];lia
 unfold dQ;by_cases h1:p<f
 ·rw[if_neg (by lia),aFe,aFK (by lia),aFP h1,←aFe]
 ·by_cases h2:p<f+c
  ·rw[if_pos ⟨by lia,h2⟩,aFe,aFu (by lia),l1,aFK (by lia),←aFe,WZ (by lia),l3,BM.rW (by lia)];congr 1;lia
  ·rw[if_neg (by lia),aFe,aFu (by lia),l1,aFu (by lia),l2,List.getElem?_drop,←aFe];congr 1;lia
theorem Turned.done{S R:List Nat}{f c:Nat}(T:Turned S f c (c / 2) R)(hl:f+c≤S.length):R=dQ S f c:=by
 refine BM.xJ (by rw[uW hl];exact T.len) fun p _=>?_;rw[T.at_,SX hl];by_cases h:f≤p∧p<f+c
 ·rw[if_pos h];by_cases h2:(f≤p∧p<f+c / 2)∨(f+c-c / 2≤p∧p<f+c)
  ·rw[if_pos h2]
  ·rw[if_neg h2];congr 1;lia
 ·rw[if_neg h,if_neg (by lia)]
inductive nQ(vs:List V)(H:Hp)(Q:VK)(E:XK):Prop
 | mk (a:Addr) (S:List Nat) (f c:Nat) (_:vs=[.ref a,.int f,.int c]) (_:H a=some (.lst (nums S))) (_:f+c≤S.length) (_:S.length≤30000) (_:Q .non (upd H a (.lst (nums (dQ S f c))))):nQ vs H Q E
theorem E9(D:Def K mg "turn_round" v4 ["singles","first","count"])(T:Txt K mg):Own P w K mg base "turn_round" ["singles","first","count"] 1 nQ:=by
 refine D.own nX (fun vs H Q E h=>?_) (fun fa cdv A outer s H vs Q E hr h=>?_)
 ·obtain⟨a,S,f,c,rfl,_⟩:=h;rfl
 ·obtain⟨a,S,f,c,rfl,ha,hl,hl2,k⟩:=h;refine⟨_,(bA (dG (jD PassesOwn.never rfl (eF rfl T.range (aY (bH pP (pv 2) a8) a6)) (dM (i:=3) nX.nd rfl (Or.inl rfl)) (aZ (bK (i:=4) nX.nd rfl (Or.inl rfl) (cC bZ (pv 0) (bH bX (pv 1) (pv 3)) (fun _ _=>rfl)))
   (aZ (mD (cC bZ (pv 0) (bH eU (bH eU (bH bX (pv 1) (pv 2)) a8) (pv 3)) (fun _ _=>rfl)) (mE (pv 0) (bH bX (pv 1) (pv 3)) set_list))
   (bA (mD (pv 4) (mE (pv 0) (bH eU (bH eU (bH bX (pv 1) (pv 2)) a8) (pv 3)) set_list)))))))),?_⟩
  refine⟨fun σ' H'=>H'=upd H a (.lst (nums (dQ S f c))),?_,?_⟩
  ·walk_at"0";refine⟨⟨by decide,by decide⟩,by lia,by lia,fM (lo:=0) (n:=((c:Int) / 2).toNat) (fun i σ' H'=>(∃ u v,σ'=[some (.ref a),some (.int f),some (.int c),u,v])∧∃ R,H'=upd H a (.lst (nums R))∧Turned S f c i R) ⟨⟨none,none,rfl⟩,S,?_,Turned.start S f c⟩ ?_ ?_⟩
   ·funext b;unfold upd
    split
    ·rename_i e;rw[e];exact ha
    ·rfl
   ·rintro i σ' H' hi ⟨⟨u,v,rfl⟩,R,rfl,TR⟩;have hi':i<c / 2:=by lia
    have hlen:=TR.len;walk_at"0";refine⟨_,cT.of a7,_,cW (i:=f+i) (by lia) (by lia),_,cT.of a7,_,cW (i:=f+c-1-i) (by lia) (by lia),?_⟩;refine⟨_,a7,f+i,uC (by lia) (by rw[bM];lia),_,a7,f+c-1-i,uC (by lia) (by rw[List.length_set,bM];lia),⟨_,rfl⟩,_,?_,TR.step hi' hl⟩;rw[dD,dD,jF,jF]
   ·rintro σ' H' ⟨_,R,rfl,TR⟩;rw[show ((c:Int) / 2).toNat=c / 2 from by lia] at TR;rw[TR.done hl]
  ·rintro σ' H' rfl;exact k
end
structure FV where
 (x wd lp:Addr) (place:Nat) (net:Addr) (number:Nat) (widths:List Nat) (loops:List (Nat×Nat))
def FV.fs(f:FV):List (Str×V):=[("place",.int f.place),("net",.ref f.net),("number",.int f.number),("widths",.ref f.wd),("loops",.ref f.lp)]
structure RV where
 (S L:Addr) (first width:Nat)
def RV.fs(v:RV):List (Str×V):=[("singles",.ref v.S),("first",.int v.first),("width",.int v.width),("nets",.ref v.L)]
theorem FV.xA(f:FV):f.fs.lookup ("place":Str)=some (.int f.place):=by kernel_rfl
theorem FV.WI(f:FV):f.fs.lookup ("net":Str)=some (.ref f.net):=by kernel_rfl
theorem FV.MF(f:FV):f.fs.lookup ("number":Str)=some (.int f.number):=by kernel_rfl
theorem FV.aDX(f:FV):f.fs.lookup ("widths":Str)=some (.ref f.wd):=by kernel_rfl
theorem FV.aDZ(f:FV):f.fs.lookup ("loops":Str)=some (.ref f.lp):=by kernel_rfl
theorem FV.LQ(f:FV)(j:Nat):bG ("number":Str) (.int j) f.fs={f with number:=j}.fs:=by kernel_rfl
theorem RV.l_S(v:RV):v.fs.lookup ("singles":Str)=some (.ref v.S):=by kernel_rfl
theorem RV.JJ(v:RV):v.fs.lookup ("first":Str)=some (.int v.first):=by kernel_rfl
theorem RV.RI(v:RV):v.fs.lookup ("width":Str)=some (.int v.width):=by kernel_rfl
theorem RV.l_L(v:RV):v.fs.lookup ("nets":Str)=some (.ref v.L):=by kernel_rfl
theorem RV.ME(v:RV):v.fs.lookup ("row":Str)=none:=by kernel_rfl
theorem RV.BF(v:RV)(j:Nat):bG ("first":Str) (.int j) v.fs={v with first:=j}.fs:=by kernel_rfl
theorem RV.wO(v:RV)(j:Nat):bG ("width":Str) (.int j) v.fs={v with width:=j}.fs:=by kernel_rfl
structure lN(K:W.Frag)(C:Addr):Prop where
 cl:Cls K C
 place:cS K C "place"
 net:cS K C "net"
 number:cS K C "number"
 widths:cS K C "widths"
 loops:cS K C "loops"
structure kS(K:W.Frag)(C:Addr):Prop where
 cl:Cls K C
 singles:cS K C "singles"
 first:cS K C "first"
 width:cS K C "width"
 nets:cS K C "nets"
structure aDh(K:W.Frag)(H:Hp)(f:FV):Prop where
 place:∀ Q,tK K "place" (.ref f.x) H Q↔Q (.int f.place) H
 net:∀ Q,tK K "net" (.ref f.x) H Q↔Q (.ref f.net) H
 number:∀ Q,tK K "number" (.ref f.x) H Q↔Q (.int f.number) H
 widths:∀ Q,tK K "widths" (.ref f.x) H Q↔Q (.ref f.wd) H
 loops:∀ Q,tK K "loops" (.ref f.x) H Q↔Q (.ref f.lp) H
theorem aCO{K:W.Frag}{C dx:Addr}{H:Hp}{f:FV}(hp:H f.x=some (.ins C dx f.fs))(T:lN K C):aDh K H f:=
 ⟨cQ hp T.cl T.place f.xA,cQ hp T.cl T.net f.WI,cQ hp T.cl T.number f.MF,cQ hp T.cl T.widths f.aDX,cQ hp T.cl T.loops f.aDZ⟩
structure aCY(K:W.Frag)(C:Addr)(H:Hp)(p:Addr)(v:RV):Prop where
 S:∀ Q,tK K "singles" (.ref p) H Q↔Q (.ref v.S) H
 first:∀ Q,tK K "first" (.ref p) H Q↔Q (.int v.first) H
 width:∀ Q,tK K "width" (.ref p) H Q↔Q (.int v.width) H
 nets:∀ Q,tK K "nets" (.ref p) H Q↔Q (.ref v.L) H
 ME:∀ k,Mth C "row" (.ref p) H k↔k
theorem aCn{K:W.Frag}{C dx p:Addr}{H:Hp}{v:RV}(hp:H p=some (.ins C dx v.fs))(T:kS K C):aCY K C H p v:=
 ⟨cQ hp T.cl T.singles v.l_S,cQ hp T.cl T.first v.JJ,cQ hp T.cl T.width v.RI,cQ hp T.cl T.nets v.l_L,iK hp v.ME⟩
def pB(H H':Hp):Prop:=∀ b o,H b=some o→(∀ ps,o≠.qA ps)→H' b=some o
theorem pB.refl(H:Hp):pB H H:=fun _ _ h _=>h
theorem pB.trans{H H1 H2:Hp}(a:pB H H1)(b:pB H1 H2):pB H H2:=fun c o h n=>b c o (a c o h n) n
theorem pB.of{H H':Hp}(a:Same H H'):pB H H':=fun c o h _=>a c o h
abbrev TL:=List (Addr×Pos×Str)
def mQ(Ts:TL)(H:Hp):Prop:=∀ e∈Ts,uD H e.1 e.2.1 e.2.2
theorem mQ.same{Ts:TL}{H H':Hp}(t:mQ Ts H)(sm:Same H H'):mQ Ts H':=fun e he=>(t e he).same sm
theorem mQ.but{Ts:TL}{H H':Hp}{b:Addr}{u:HO}(t:mQ Ts H)(bt:But b H H')(hb:H b=some u)(hu:Mut (some u))(hn:∀ φ,u≠.ext φ):mQ Ts H':=fun e he=>(t e he).but bt hb hu hn
def A8(H:Hp):List V→List (Nat×Nat)→Prop
 | [],[]=>True
 | x::r,e::es=>(∃ t,x= .ref t∧H t=some (.tup [.int (e.1:Nat),.int (e.2:Nat)]))∧A8 H r es
 | _,_=>False
theorem A8.len{H:Hp}:∀ {xs:List V} {es:List (Nat×Nat)},A8 H xs es→xs.length=es.length
 | [],[],_=>rfl
 | x::r,e::es,⟨_,h⟩=>by rw[List.length_cons,List.length_cons,A8.len h]
 | [],_::_,h=>h.elim
 | _::_,[],h=>h.elim
theorem A8.keep{H H':Hp}(k:∀ t xs,H t=some (.tup xs)→H' t=some (.tup xs)):∀ {xs:List V} {es:List (Nat×Nat)},A8 H xs es→A8 H' xs es
 | [],[],_=>trivial
 | x::r,e::es,⟨⟨t,h1,h2⟩,h⟩=>⟨⟨t,h1,k _ _ h2⟩,A8.keep k h⟩
 | [],_::_,h=>h.elim
 | _::_,[],h=>h.elim
structure FrC(CI:Addr)(H:Hp)(f:FV):Prop where
 at_:∃ dx,H f.x=some (.ins CI dx f.fs)
 wd:H f.wd=some (.lst (nums f.widths.reverse))
 lp:∃ ls,H f.lp=some (.lst ls.reverse)∧A8 H ls f.loops
theorem FrC.keep{CI:Addr}{H H':Hp}{f:FV}(F:FrC CI H f)(k:∀ c o,H c=some o→(∀ ps,o≠.qA ps)→(c=f.x∨c=f.wd∨c=f.lp∨∃ xs,o= .tup xs)→H' c=some o):FrC CI H' f:=by
 obtain⟨⟨dx,h1⟩,h2,ls,h3,h4⟩:=F;exact⟨⟨dx,k _ _ h1 (fun _ z=>by cases z) (.inl rfl)⟩,k _ _ h2 (fun _ z=>by cases z) (.inr (.inl rfl)),ls,k _ _ h3 (fun _ z=>by cases z) (.inr (.inr (.inl rfl))),h4.keep fun t xs e=>k _ _ e (fun _ z=>by cases z) (.inr (.inr (.inr ⟨xs,rfl⟩)))⟩
def rJ(fs:List FV):List Addr:=fs.flatMap fun f=>[f.x,f.wd,f.lp]
def owned(p:Addr)(v:RV)(fs:List FV):List Addr:=p::v.S::v.L::rJ fs
theorem fI(f:FV)(r:List FV):rJ (f::r)=f.x::f.wd::f.lp::rJ r:=rfl
theorem WC{fs:List FV}{f:FV}(h:f∈fs):f.x∈rJ fs∧f.wd∈rJ fs∧f.lp∈rJ fs:=by
 unfold rJ;refine⟨?_,?_,?_⟩
 ·exact List.mem_flatMap.mpr ⟨f,h,by simp⟩
 ·exact List.mem_flatMap.mpr ⟨f,h,by simp⟩
 ·exact List.mem_flatMap.mpr ⟨f,h,by simp⟩
structure dL(CI CR:Addr)(Ts:TL)(H0 H:Hp)(p:Addr)(v:RV)(SL:List Nat)(fs:List FV):Prop where
 base:pB H0 H
 tabs:mQ Ts H
 at_:∃ dx,H p=some (.ins CR dx v.fs)
 sl:H v.S=some (.lst (nums SL))
 nl:H v.L=some (.lst (fs.map fun f=>V.ref f.x).reverse)
 fr:∀ f∈fs,FrC CI H f
 nd:(owned p v fs).Nodup
 fresh:∀ b∈owned p v fs,∀ o,H0 b=some o→∃ ps,o= .qA ps
section
variable{CI CR:Addr}{Ts:TL}{H0 H H':Hp}{p:Addr}{v v':RV}{SL iB:List Nat}{fs r:List FV}{f f':FV}
theorem dL.rd{K:W.Frag}(G:dL CI CR Ts H0 H p v SL fs)(T:kS K CR):aCY K CR H p v:=by
 obtain⟨dx,h⟩:=G.at_;exact aCn h T
theorem dL.qD{K:W.Frag}(G:dL CI CR Ts H0 H p v SL (f::r))(T:lN K CI):aDh K H f:=by
 obtain⟨dx,h⟩:=(G.fr f (aFh ..)).at_;exact aCO h T
theorem dL.qA(G:dL CI CR Ts H0 H p v SL fs)(sm:pB H H')(t:mQ Ts H'):dL CI CR Ts H0 H' p v SL fs:=by
 obtain⟨dx,h⟩:=G.at_;have nt:∀ {C dx:Addr} {fs:List (Str×V)},∀ ps,HO.ins C dx fs≠.qA ps:=fun _ z=>by cases z
 have nl:∀ {xs:List V},∀ ps,HO.lst xs≠.qA ps:=fun _ z=>by cases z
 exact⟨G.base.trans sm,t,⟨dx,sm _ _ h nt⟩,sm _ _ G.sl nl,sm _ _ G.nl nl,fun f hf=>(G.fr f hf).keep fun c o e n _=>sm _ _ e n,G.nd,G.fresh⟩
theorem dL.same(G:dL CI CR Ts H0 H p v SL fs)(sm:Same H H'):dL CI CR Ts H0 H' p v SL fs:=G.qA (.of sm) (G.tabs.same sm)
theorem dL.WN(G:dL CI CR Ts H0 H p v SL fs){b:Addr}(hb:b∈owned p v fs):∃ u,H b=some u∧Mut (some u)∧(∀ φ,u≠.ext φ)∧(∀ xs,u≠.tup xs)∧∀ ps,u≠.qA ps:=by
 have I:∀ {C dx:Addr} {fs:List (Str×V)},Mut (some (HO.ins C dx fs))∧(∀ φ,HO.ins C dx fs≠.ext φ)∧(∀ xs,HO.ins C dx fs≠.tup xs)∧∀ ps,HO.ins C dx fs≠.qA ps:=⟨trivial,fun _ z=>(by cases z),fun _ z=>(by cases z),fun _ z=>(by cases z)⟩;have J:∀ {ys:List V},Mut (some (HO.lst ys))∧(∀ φ,HO.lst ys≠.ext φ)∧(∀ xs,HO.lst ys≠.tup xs)∧∀ ps,HO.lst ys≠.qA ps:=⟨trivial,fun _ z=>(by cases z),fun _ z=>(by cases z),fun _ z=>(by cases z)⟩;obtain⟨dx,h⟩:=G.at_;unfold owned at hb;rcases aEZ.mp hb with rfl | hb
 ·exact⟨_,h,I⟩
 rcases aEZ.mp hb with rfl | hb
 ·exact⟨_,G.sl,J⟩
 rcases aEZ.mp hb with rfl | hb
 ·exact⟨_,G.nl,J⟩
 refine aA (List.mem_flatMap.mp hb) fun g hg hm=>?_;obtain⟨⟨dg,h1⟩,h2,ls,h3,_⟩:=G.fr g hg;simp only[aEZ,List.not_mem_nil,or_false] at hm;rcases hm with rfl | rfl | rfl
 ·exact⟨_,h1,I⟩
 ·exact⟨_,h2,J⟩
 ·exact⟨_,h3,J⟩
theorem dL.free(G:dL CI CR Ts H0 H p v SL fs){b:Addr}(hb:H b=none):b∉owned p v fs:=fun z=>by
 refine aA (G.WN z) fun u h _=>?_;rw[hb] at h;cases h
theorem dL.chg(G:dL CI CR Ts H0 H p v SL fs){b:Addr}(hb:b∈owned p v fs)(o:HO):pB H0 (upd H b o)∧mQ Ts (upd H b o)∧(∀ c u,c≠b→H c=some u→upd H b o c=some u)∧∀ t xs,H t=some (.tup xs)→upd H b o t=some (.tup xs):=by
 refine aO (G.WN hb) fun u h m1 m2 m3 m4=>?_;refine⟨fun c w e n=>?_,G.tabs.but dW h m1 m2,fun c w n e=>by rw[bF n];exact e,fun t xs e=>?_⟩
 ·rw[bF (fun z=>by obtain⟨ps,hp⟩:=G.fresh b hb w (by rw[←z];exact e);exact n ps hp)];exact G.base _ _ e n
 ·rw[bF (fun z=>by rw[z,h] at e;exact m3 _ (aFa e))];exact e
theorem FrC.stay{b:Addr}{o:HO}{g:FV}(F:FrC CI H g)(n1:g.x≠b)(n2:g.wd≠b)(n3:g.lp≠b)(kt:∀ t xs,H t=some (.tup xs)→upd H b o t=some (.tup xs)):FrC CI (upd H b o) g:=
 F.keep fun c u e _ h=>by
  rcases h with rfl | rfl | rfl | ⟨xs,rfl⟩
  ·rw[bF n1];exact e
  ·rw[bF n2];exact e
  ·rw[bF n3];exact e
  ·exact kt _ _ e
theorem mH(h:(owned p v fs).Nodup):p≠v.S∧p≠v.L∧v.S≠v.L∧p∉rJ fs∧v.S∉rJ fs∧v.L∉rJ fs∧(rJ fs).Nodup:=by
 unfold owned at h;rw[aFB,aFB,aFB,aEZ,aEZ,aEZ] at h;refine aG h fun h1 h2 h3 h4=>?_;exact⟨fun z=>h1 (.inl z),fun z=>h1 (.inr (.inl z)),fun z=>h2 (.inl z),fun z=>h1 (.inr (.inr z)),fun z=>h2 (.inr z),h3,h4⟩
theorem JF(h:(rJ (f::r)).Nodup):f.x≠f.wd∧f.x≠f.lp∧f.wd≠f.lp∧f.x∉rJ r∧f.wd∉rJ r∧f.lp∉rJ r∧(rJ r).Nodup:=by
 rw[fI,aFB,aFB,aFB,aEZ,aEZ,aEZ] at h;refine aG h fun h1 h2 h3 h4=>?_;exact⟨fun z=>h1 (.inl z),fun z=>h1 (.inr (.inl z)),fun z=>h2 (.inl z),fun z=>h1 (.inr (.inr z)),fun z=>h2 (.inr z),h3,h4⟩
theorem vB{b:Addr}{g:FV}(h:b∉rJ fs)(hg:g∈fs):g.x≠b∧g.wd≠b∧g.lp≠b:=by
 refine aF (WC hg) fun h1 h2 h3=>?_;exact⟨fun z=>h (z ▸ h1),fun z=>h (z ▸ h2),fun z=>h (z ▸ h3)⟩
theorem dL.qQ{dx:Addr}(G:dL CI CR Ts H0 H p v SL fs)(e1:v'.S=v.S)(e2:v'.L=v.L):dL CI CR Ts H0 (upd H p (.ins CR dx v'.fs)) p v' SL fs:=by
 have hb:p∈owned p v fs:=aFh ..;refine aG (G.chg hb (.ins CR dx v'.fs)) fun c1 c2 c3 c4=>?_;(refine aK (mH G.nd) fun n1 n2 n3 n4 n5 bO=>?_;refine aD bO fun n6 n7=>?_);have eo:owned p v' fs=owned p v fs:=by unfold owned;rw[e1,e2]
 refine⟨c1,c2,⟨dx,a7⟩,by rw[e1];exact c3 _ _ (Ne.symm n1) G.sl,by rw[e2];exact c3 _ _ (Ne.symm n2) G.nl,fun g hg=>?_,by rw[eo];exact G.nd,by rw[eo];exact G.fresh⟩;refine aF (vB n4 hg) fun m1 m2 m3=>?_;exact(G.fr g hg).stay m1 m2 m3 c4
theorem dL.CA(G:dL CI CR Ts H0 H p v SL fs)(iB:List Nat):dL CI CR Ts H0 (upd H v.S (.lst (nums iB))) p v iB fs:=by
 have hb:v.S∈owned p v fs:=aFk _ (aFh ..);refine aG (G.chg hb (.lst (nums iB))) fun c1 c2 c3 c4=>?_;(refine aK (mH G.nd) fun n1 n2 n3 n4 n5 bO=>?_;refine aD bO fun n6 n7=>?_);obtain⟨dx,h⟩:=G.at_;refine⟨c1,c2,⟨dx,c3 _ _ n1 h⟩,a7,c3 _ _ (Ne.symm n3) G.nl,fun g hg=>?_,G.nd,G.fresh⟩;refine aF (vB n5 hg) fun m1 m2 m3=>?_;exact(G.fr g hg).stay m1 m2 m3 c4
theorem dL.setTop{dx:Addr}(G:dL CI CR Ts H0 H p v SL (f::r))(n:Nat):dL CI CR Ts H0 (upd H f.x (.ins CI dx {f with number:=n}.fs)) p v SL ({f with number:=n}::r):=by
 have hb:f.x∈owned p v (f::r):=by unfold owned;rw[fI];simp
 refine aG (G.chg hb (.ins CI dx {f with number:=n}.fs)) fun c1 c2 c3 c4=>?_;(refine aK (mH G.nd) fun n1 n2 n3 n4 n5 bO=>?_;refine aD bO fun n6 n7=>?_);(refine aK (JF n7) fun t1 t2 t3 t4 t5 cA=>?_;refine aD cA fun t6 t7=>?_);rw[fI,aEZ,not_or] at n4 n5 n6;obtain⟨dp,h⟩:=G.at_;obtain⟨_,h2,ls,h3,h4⟩:=G.fr f (aFh ..);refine⟨c1,c2,⟨dp,c3 _ _ n4.1 h⟩,c3 _ _ n5.1 G.sl,c3 _ _ n6.1 G.nl,fun g hg=>?_,G.nd,G.fresh⟩;rcases aEZ.mp hg with rfl | hg
 ·exact⟨⟨dx,a7⟩,c3 _ _ (Ne.symm t1) h2,ls,c3 _ _ (Ne.symm t2) h3,h4.keep c4⟩
 ·refine aF (vB t4 hg) fun m1 m2 m3=>?_;exact(G.fr g (aFk _ hg)).stay m1 m2 m3 c4
theorem dL.VB(G:dL CI CR Ts H0 H p v SL (f::r))(ws:List Nat):dL CI CR Ts H0 (upd H f.wd (.lst (nums ws.reverse))) p v SL ({f with widths:=ws}::r):=by
 have hb:f.wd∈owned p v (f::r):=by unfold owned;rw[fI];simp
 refine aG (G.chg hb (.lst (nums ws.reverse))) fun c1 c2 c3 c4=>?_;(refine aK (mH G.nd) fun n1 n2 n3 n4 n5 bO=>?_;refine aD bO fun n6 n7=>?_);(refine aK (JF n7) fun t1 t2 t3 t4 t5 cA=>?_;refine aD cA fun t6 t7=>?_);rw[fI,aEZ,aEZ,not_or,not_or] at n4 n5 n6;obtain⟨dp,h⟩:=G.at_;obtain⟨⟨dx,h1⟩,h2,ls,h3,h4⟩:=G.fr f (aFh ..);refine⟨c1,c2,⟨dp,c3 _ _ n4.2.1 h⟩,c3 _ _ n5.2.1 G.sl,c3 _ _ n6.2.1 G.nl,fun g hg=>?_,G.nd,G.fresh⟩;rcases aEZ.mp hg with rfl | hg
 ·exact⟨⟨dx,c3 _ _ t1 h1⟩,a7,ls,c3 _ _ (Ne.symm t3) h3,h4.keep c4⟩
 ·refine aF (vB t5 hg) fun m1 m2 m3=>?_;exact(G.fr g (aFk _ hg)).stay m1 m2 m3 c4
theorem dL.VC{ls:List V}{es:List (Nat×Nat)}(G:dL CI CR Ts H0 H p v SL (f::r))(hl:A8 H ls es):dL CI CR Ts H0 (upd H f.lp (.lst ls.reverse)) p v SL ({f with loops:=es}::r):=by
 have hb:f.lp∈owned p v (f::r):=by unfold owned;rw[fI];simp
 refine aG (G.chg hb (.lst ls.reverse)) fun c1 c2 c3 c4=>?_;(refine aK (mH G.nd) fun n1 n2 n3 n4 n5 bO=>?_;refine aD bO fun n6 n7=>?_);(refine aK (JF n7) fun t1 t2 t3 t4 t5 cA=>?_;refine aD cA fun t6 t7=>?_);rw[fI,aEZ,aEZ,aEZ,not_or,not_or,not_or] at n4 n5 n6;obtain⟨dp,h⟩:=G.at_;obtain⟨⟨dx,h1⟩,h2,_⟩:=G.fr f (aFh ..);refine⟨c1,c2,⟨dp,c3 _ _ n4.2.2.1 h⟩,c3 _ _ n5.2.2.1 G.sl,c3 _ _ n6.2.2.1 G.nl,fun g hg=>?_,G.nd,G.fresh⟩;rcases aEZ.mp hg with rfl | hg
 ·exact⟨⟨dx,c3 _ _ t2 h1⟩,c3 _ _ t3 h2,ls,a7,hl.keep c4⟩
 ·refine aF (vB t6 hg) fun m1 m2 m3=>?_;exact(G.fr g (aFk _ hg)).stay m1 m2 m3 c4
theorem dL.pop(G:dL CI CR Ts H0 H p v SL (f::r)):dL CI CR Ts H0 (upd H v.L (.lst (r.map fun f=>V.ref f.x).reverse)) p v SL r:=by
 have hb:v.L∈owned p v (f::r):=by unfold owned;simp
 refine aG (G.chg hb (.lst (r.map fun f=>V.ref f.x).reverse)) fun c1 c2 c3 c4=>?_;(refine aK (mH G.nd) fun n1 n2 n3 n4 n5 bO=>?_;refine aD bO fun n6 n7=>?_);obtain⟨dp,h⟩:=G.at_;have sub:∀ b∈owned p v r,b∈owned p v (f::r):=fun b hb=>by
  unfold owned at hb ⊢;rw[fI];simp only[aEZ] at hb ⊢;rcases hb with h | h | h | h
  ·exact .inl h
  ·exact .inr (.inl h)
  ·exact .inr (.inr (.inl h))
  ·exact .inr (.inr (.inr (.inr (.inr (.inr h)))))
 refine⟨c1,c2,⟨dp,c3 _ _ n2 h⟩,c3 _ _ n3 G.sl,a7,fun g hg=>?_,?_,fun b hb=>G.fresh b (sub b hb)⟩
 ·refine aF (vB n6 (aFk _ hg)) fun m1 m2 m3=>?_;exact(G.fr g (aFk _ hg)).stay m1 m2 m3 c4
 ·(refine aK (JF n7) fun t1 t2 t3 t4 t5 cA=>?_;refine aD cA fun t6 t7=>?_);rw[fI,aEZ,aEZ,aEZ,not_or,not_or,not_or] at n4 n5 n6;unfold owned;rw[aFB,aFB,aFB,aEZ,aEZ,aEZ];refine⟨?_,?_,n6.2.2.2,t7⟩
  ·rintro(z | z | z)
   ·exact n1 z
   ·exact n2 z
   ·exact n4.2.2.2 z
  ·rintro(z | z)
   ·exact n3 z
   ·exact n5.2.2.2 z
theorem dL.push(G:dL CI CR Ts H0 H p v SL fs)(sm:Same H H')(hf:FrC CI H' f)(f1:H f.x=none)(f2:H f.wd=none)(f3:H f.lp=none)(n1:f.x≠f.wd)(n2:f.x≠f.lp)(n3:f.wd≠f.lp):
  dL CI CR Ts H0 (upd H' v.L (.lst ((f::fs).map fun f=>V.ref f.x).reverse)) p v SL (f::fs):=by
 have G':=G.same sm;have nw:∀ c,H c=none→∀ o,H0 c=some o→∃ ps,o= .qA ps:=fun c hc o e=>by
  refine aFA fun z=>?_;have:=G.base c o e fun ps h=>z ⟨ps,h⟩;rw[hc] at this;cases this
 have hb:v.L∈owned p v fs:=by unfold owned;simp
 refine aG (G'.chg hb (.lst ((f::fs).map fun f=>V.ref f.x).reverse)) fun c1 c2 c3 c4=>?_;(refine aK (mH G.nd) fun m1 m2 m3 m4 m5 bO=>?_;refine aD bO fun m6 m7=>?_);obtain⟨dp,h⟩:=G'.at_;have nf:∀ c,H c=none→c∉owned p v fs:=fun c hc=>G.free hc;have g1:=nf _ f1;have g2:=nf _ f2;have g3:=nf _ f3;unfold owned at g1 g2 g3;rw[aEZ,aEZ,aEZ,not_or,not_or,not_or] at g1 g2 g3;refine⟨c1,c2,⟨dp,c3 _ _ m2 h⟩,c3 _ _ m3 G'.sl,a7,fun g hg=>?_,?_,fun b hb=>?_⟩
 ·rcases aEZ.mp hg with rfl | hg
  ·exact hf.stay g1.2.2.1 g2.2.2.1 g3.2.2.1 c4
  ·refine aF (vB m6 hg) fun q1 q2 q3=>?_;exact(G'.fr g hg).stay q1 q2 q3 c4
 ·unfold owned;rw[fI];simp only[aFB,aEZ,not_or];exact⟨⟨m1,m2,Ne.symm g1.1,Ne.symm g2.1,Ne.symm g3.1,m4⟩,⟨m3,Ne.symm g1.2.1,Ne.symm g2.2.1,Ne.symm g3.2.1,m5⟩,⟨Ne.symm g1.2.2.1,Ne.symm g2.2.2.1,Ne.symm g3.2.2.1,m6⟩,⟨n1,n2,g1.2.2.2⟩,⟨n3,g2.2.2.2⟩,g3.2.2.2,m7⟩
 ·unfold owned at hb;rw[fI] at hb;simp only[aEZ] at hb;rcases hb with h | h | h | h | h | h | h
  ·exact G.fresh b (by unfold owned;simp [h])
  ·exact G.fresh b (by unfold owned;simp [h])
  ·exact G.fresh b (by unfold owned;simp [h])
  ·rw[h];exact nw _ f1
  ·rw[h];exact nw _ f2
  ·rw[h];exact nw _ f3
  ·exact G.fresh b (by unfold owned;simp [h])
end
local macro_rules | `(tactic| walk_at"9")=>sm false (PX++W5++ZY) (mV++mL++lK++eS++fO++eM)
abbrev tU:Stmt:=top 81
theorem qS:bJ ["run","layer","aside"] ["run","layer"] (bC tU):=bV (by kernel_rfl)
abbrev zV:Stmt:=top 73
theorem pI:bJ ["run","layer","behind","i"] ["run","layer"] (bC zV):=bV (by kernel_rfl)
def cF(s:Br.At)(l:List Br.Frame):List Nat:=BM.flat l++s.aside.reverse.flatten
def FrA(hv:List V)(f:FV)(k:Nat)(s:Br.At)(n:Nat):Prop:=f.place=k∧hv[k]?=some (.ref f.net)∧f.number=n∧f.widths=s.aside.map List.length∧f.loops=s.loops.map fun e=>(e.1+1,e.2-1)
def aBX(hv:List V):List FV→List Br.Frame→Prop
 | [],[]=>True
 | f::fs,e::l=>FrA hv f e.1 e.2.2 (e.2.2.pc+1)∧aBX hv fs l
 | _,_=>False
structure XR(hv:List V)(Ln:Nat)(v:RV)(SL:List Nat)(f:FV)(r:List FV)(k:Nat)(s:Br.At)(l:List Br.Frame)(n:Nat):Prop where
 top:FrA hv f k s n
 rest:aBX hv r l
 first:v.first=(cF s l).length
 width:v.width=s.row.length
 pre:∃ rest,SL=cF s l++(s.row++rest)
 len:SL.length=Ln
 lt:∀ x∈SL,x<4294967296
theorem jO.smt{C:Addr}{H H':Hp}{q:Addr}{place kind:Nat}{z:Br.Spot}{l:Br.Layer}(h:jO C H q place kind z l)(sm:pB H H'):jO C H' q place kind z l:=by
 (refine aI h.at_ fun dx u h0 h1 h2 h3 h4 bO=>?_;refine aG bO fun h5 h6 cA h9=>?_;refine aA cA fun cols h7 h8=>?_);have nl:∀ {xs:List V},∀ ps,HO.lst xs≠.qA ps:=fun _ z=>by cases z
 exact⟨dx,u,sm _ _ h0 (fun _ z=>by cases z),h1,h2,h3,h4,h5,sm _ _ h6 nl,⟨cols,sm _ _ h7 nl,fun m wv c e=>(h8 m wv c e).keep fun a l x=>sm _ _ x nl⟩,sm _ _ h9 nl⟩
structure LCtx(CI CR CL:Addr)(Ts:TL)(H0 H:Hp)(p q:Addr)(v:RV)(SL:List Nat)(f:FV)(r:List FV)(hv:List V)(Ln k:Nat)(s:Br.At)(l:List Br.Frame)(t:Br.Told):Prop where
 C:dL CI CR Ts H0 H p v SL (f::r)
 A:XR hv Ln v SL f r k s l (s.pc+1)
 lay:jO CL H0 q t.at_ t.kind t.before t.layer
 fit:BM.R7 t.before s
 room:(BM.flat l).length+t.held≤Ln
 wide:t.before.tooWide t.layer=false
 there:t.before.without t.layer=false
 stray:t.before.astray t.layer=false
 lok:BM.xX t.before.w t.layer
 PJ:Ln≤20000
 sb:BM.uE t.before
 ll:s.loops.length≤8
inductive dN(CI CR CL:Addr)(Ts:TL)(P:Br.Layer→Prop)(vs:List V)(H:Hp)(Q:VK)(E:XK):Prop
 | mk (H0:Hp) (p q:Addr) (v:RV) (SL:List Nat) (f:FV) (r:List FV) (hv:List V) (Ln k:Nat) (s:Br.At) (l:List Br.Frame) (t:Br.Told) (s':Br.At) (_:vs=[.ref p,.ref q]) (_:P t.layer) (_:LCtx CI CR CL Ts H0 H p q v SL f r hv Ln k s l t) (_:s.after t.layer=some s') (_:∀ H' v' iB f',dL CI CR Ts H0 H' p v' iB (f'::r)→XR hv Ln v' iB f' r k s' l s'.pc→Q .non H'):dN CI CR CL Ts P vs H Q E
theorem dP{CI CR CL:Addr}{Ts:TL}{P:Br.Layer→Prop}{vs:List V}{H:Hp}{Q:VK}{E:XK}(h:dN CI CR CL Ts P vs H Q E):vs.length=2:=by
 obtain⟨_,_,_,_,_,_,_,_,_,_,_,_,_,_,rfl,_⟩:=h;rfl
theorem pF{f:FV}{r:List FV}{z:Int}(hz:z= -1):NN (((f::r).map fun f=>V.ref f.x).reverse) z=some (V.ref f.x):=by
 subst hz;rw[List.map_cons,aFr];generalize (r.map fun f=>V.ref f.x).reverse=l;unfold NN RM;rw[if_neg (by decide),aFb,List.length_cons,List.length_nil];rw[if_pos (by lia)];show (l++[V.ref f.x])[_]?=_;rw[aFu (by lia)];rw[show ((-1:Int)+((l.length+1:Nat):Int)).toNat-l.length=0 from by lia];rfl
theorem C9{l:List Nat}{a:Nat}{r:List Nat}(h:l=a::r):(nums l.reverse)[(nums l.reverse).length-1]?=some (V.int (a:Nat)):=by
 subst h;rw[bM,aFj,List.length_cons,Nat.add_sub_cancel,mG (by rw[aFj,List.length_cons];lia),aFr,aFe,aFu (by rw[aFj];exact aFi _),aFj,Nat.sub_self];rfl
theorem C8{l:List Nat}{a:Nat}{r:List Nat}(h:l=a::r):(nums l.reverse).dropLast=nums r.reverse:=by
 subst h;unfold nums;rw[aFr,aFC,List.map_cons,List.map_nil,List.dropLast_concat]
theorem GQ(l:List Nat)(x:Nat):nums l.reverse++[V.int (x:Nat)]=nums (x::l).reverse:=by rw[wT,aFr]
theorem pT{s:Br.At}{l:List Br.Frame}{y:List Nat}{a:List (List Nat)}(h:s.aside=y::a):cF s l=(BM.flat l++a.reverse.flatten)++y:=by
 unfold cF;rw[h,aFr,List.flatten_append,aFJ];simp
section
variable{P:Program}{w:World}{K:W.Frag}{mg:Str→Option Value}{base:Heap}{CI CR CL:Addr}{Ts:TL}
theorem DJ(D:Def K mg "take_behind" tU ["run","layer"])(TI:lN K CI)(TR:kS K CR)(TL:mW K CL):Own P w K mg base "take_behind" ["run","layer"] 1 (dN CI CR CL Ts (·= .join)):=by
 refine D.own qS (fun vs H Q E h=>dP h) (fun fa cdv A outer s0 H vs Q Ex hr h=>?_)
 ·skip;obtain⟨H0,p,q,v,SL,f,r,hv,Ln,k,s,l,t,s',rfl,hP,L,ha,k2⟩:=h;have G:=L.C;have F:=G.rd TR;have E:=G.qD TI;(refine aI ((L.lay.smt G.base).at_) fun dq u hq u1 u2 u3 u4 bO=>?_;refine aG bO fun u5 u6 cA u9=>?_;refine aA cA fun cols u7 u8=>?_);have Y:=iW hq TL;have hF:=G.fr f (aFh ..);obtain⟨dp,hp⟩:=G.at_;refine aL L.A.top fun a1 a2 a3 a4 a5=>?_;obtain⟨rest,hpre⟩:=L.A.pre;have hlen:=L.A.len;have hfi:=L.A.first;have hwi:=L.A.width;have yX:=L.PJ;have hP':t.layer= .join:=hP;rw[hP'] at ha;refine⟨_,(aZ (bK (i:=2) qS.nd rfl (Or.inl rfl) (rH PySem.F.plainAttrs_list PySem.F.slot_list_pop PySem.F.type_list_pop vC (bB (cC bZ (bB (pv 0) rfl) (fD dZ a8) (fun _ _=>rfl)) rfl)))
   (aZ (iV (pv 0) (pv 2) RN)
   (bA (iV (pv 0) (pv 2) xC)))),?_⟩
  cases ea:s.aside with
  | nil=>unfold Br.At.after at ha;rw[ea] at ha;cases ha
  | cons y as=>
   unfold Br.At.after at ha;rw[ea] at ha;have ha':=(aFa ha).symm;rw[ea,List.map_cons] at a4;have JP:=pT (l:=l) ea;rw[JP] at hpre;rw[JP,aFb] at hfi;walk_at"9";refine⟨_,cT.of G.nl,_,pF rfl,?_⟩;walk_at"9";refine⟨.inl ⟨rfl,_,cT.of hF.wd⟩,f.wd,_,_,rfl,rfl,hF.wd,C9 a4,?_⟩;rw[C8 a4];have G1:=G.VB (as.map List.length);obtain⟨XC,hp1⟩:=G1.at_;refine⟨CR,XC,v.fs,hp1,TR.cl,TR.first,_,v.JJ,_,rfl,_,rfl,XC,v.fs,hp1,by show 4<1000;decide,?_⟩;rw[show ((v.first:Nat):Int)-((y.length:Nat):Int)=((v.first-y.length:Nat):Int) from by lia,v.BF];have G2:=G1.qQ (dx:=XC) (v':={v with first:=v.first-y.length}) rfl rfl;refine⟨CR,XC,_,a7,TR.cl,TR.width,_,RV.RI _,_,rfl,_,rfl,XC,_,a7,by show 4<1000;decide,?_⟩;rw[←Int.natCast_add,RV.wO,dD];have G3:=G1.qQ (dx:=XC) (v':={v with first:=v.first-y.length,width:=v.width+y.length}) rfl rfl;refine k2 _ _ _ _ G3 ?_;rw[ha'];refine⟨⟨a1,a2,a3,rfl,a5⟩,L.A.rest,?_,?_,⟨rest,?_⟩,hlen,L.A.lt⟩
   ·show v.first-y.length=(BM.flat l++as.reverse.flatten).length;lia
   ·show v.width+y.length=(y++s.row).length;rw[aFb];lia
   ·show SL=(BM.flat l++as.reverse.flatten)++(y++s.row++rest);rw[hpre];simp only[aFJ]
theorem IR(D:Def K mg "put_aside" zV ["run","layer"])(TI:lN K CI)(TR:kS K CR)(TL:mW K CL)(T:Txt K mg):Own P w K mg base "put_aside" ["run","layer"] 1 (dN CI CR CL Ts (·= .aside)):=by
 refine D.own pI (fun vs H Q E h=>dP h) (fun fa cdv A outer s0 H vs Q Ex hr h=>?_)
 ·skip;obtain⟨H0,p,q,v,SL,f,r,hv,Ln,k,s,l,t,s',rfl,hP,L,ha,k2⟩:=h;have G:=L.C;have F:=G.rd TR;have E:=G.qD TI;(refine aI ((L.lay.smt G.base).at_) fun dq u hq u1 u2 u3 u4 bO=>?_;refine aG bO fun u5 u6 cA u9=>?_;refine aA cA fun cols u7 u8=>?_);have Y:=iW hq TL;have hF:=G.fr f (aFh ..);obtain⟨dp,hp⟩:=G.at_;refine aL L.A.top fun a1 a2 a3 a4 a5=>?_;obtain⟨rest,hpre⟩:=L.A.pre;have hlen:=L.A.len;have hfi:=L.A.first;have hwi:=L.A.width;have yX:=L.PJ;have hP':t.layer= .aside:=hP;rw[hP'] at ha;have ha':=(aFa ha).symm;have hroom:=L.room;rw[BM.JN,hP'] at hroom;have hr2:(BM.flat l).length+(Br.total (t.before.w::t.before.aside)+t.before.w)≤Ln:=by
   have:Br.total (t.before.next .aside).aside+(t.before.next .aside).w=Br.total (t.before.w::t.before.aside)+t.before.w:=rfl;lia
  have UR:(cF s l).length=(BM.flat l).length+Br.total t.before.aside:=by
   unfold cF;rw[aFb,BM.dI,L.fit.a]
  have hw2:=L.fit.w;have ZU:v.first+v.width+v.width≤SL.length:=by
   have:Br.total (t.before.w::t.before.aside)=t.before.w+Br.total t.before.aside:=rfl;lia
  have UP:=L.sb.ok.2.1;refine⟨_,(aZ (bK (i:=2) pI.nd rfl (Or.inl rfl) (bH bX (bB (pv 0) rfl) (bB (pv 0) rfl)))
   (aZ (dG (jD PassesOwn.never rfl (eF rfl T.range (aY (bB (pv 0) rfl) a6)) (dM (i:=3) pI.nd rfl (Or.inl rfl)) (bA (mD (cC bZ (bB (pv 0) rfl) (bH bX (bB (pv 0) rfl) (pv 3)) (fun _ _=>rfl)) (mE (bB (pv 0) rfl) (bH bX (pv 2) (pv 3)) set_list)))))
   (aZ (dA (o0 PySem.F.plainAttrs_list PySem.F.slot_list_append PySem.F.type_list_append fK (bB (cC bZ (bB (pv 0) rfl) (fD dZ a8) (fun _ _=>rfl)) rfl) (aY (bB (pv 0) rfl) a6)))
   (bA (cP (pv 0) (pv 2) rfl))))),?_⟩
  walk_at"9";refine⟨fun σ' H'=>σ'.take 3=[some (.ref p),some (.ref q),some (.int ((v.first+v.width:Nat):Int))]∧σ'.length=4∧H'=upd H v.S (.lst (nums (BM.over SL (v.first+v.width) ((List.range v.width).map fun i=>SL.getD (v.first+i) 0)))),?_,?_⟩
  ·walk_at"9";refine⟨by lia,by lia,fM (lo:=0) (n:=((v.width:Nat):Int).toNat) (fun i σ' H'=>(∃ z,σ'=[some (.ref p),some (.ref q),some (.int ((v.first+v.width:Nat):Int)),z])∧H'=upd H v.S (.lst (nums (BM.over SL (v.first+v.width) ((List.range i).map fun i=>SL.getD (v.first+i) 0))))) ⟨⟨none,by rw[Int.natCast_add]⟩,?_⟩ ?_ ?_⟩
   ·rw[List.range_zero,List.map_nil,BM.o5];funext b;unfold upd
    split
    ·rename_i e;rw[e];exact G.sl
    ·rfl
   ·rintro i σ' H' hi ⟨⟨z,rfl⟩,rfl⟩;rw[aFl] at hi;have G1:=G.CA (BM.over SL (v.first+v.width) ((List.range i).map fun i=>SL.getD (v.first+i) 0));have F:=G1.rd TR;have E:=G1.qD TI;refine aH ((L.lay.smt G1.base).at_) fun dq1 u_ hq1 _=>?_;have Y:=iW hq1 TL;have hol:(BM.over SL (v.first+v.width) ((List.range i).map fun i=>SL.getD (v.first+i) 0)).length=SL.length:=BM.fZ (by rw[BM.bW];lia);walk_at"9";refine⟨_,cT.of G1.sl,_,cW (i:=v.first+i) (by lia) (by lia),_,G1.sl,v.first+v.width+i,uC (by lia) (by rw[bM,hol];lia),⟨_,rfl⟩,?_⟩;rw[dD,jF,BM.rK (by rw[BM.bW];lia) (.inl (by lia))];have:=BM.o4 (S:=SL) (ys:=(List.range i).map fun i=>SL.getD (v.first+i) 0) (a:=v.first+v.width) (y:=SL.getD (v.first+i) 0) (by rw[BM.bW];lia);rw[BM.bW] at this;rw[this,←BM.gN]
   ·rintro σ' H' ⟨⟨z,rfl⟩,rfl⟩;rw[aFl];exact⟨rfl,rfl,rfl⟩
  ·rintro σ' H' ⟨hs1,hs2,rfl⟩;obtain⟨b1,b2,b3,z,rfl⟩:=ex4 hs2;simp only[List.take,List.cons.injEq,and_true] at hs1;(refine aF hs1 fun dF eX hE=>?_;subst dF;subst eX;subst hE);have G1:=G.CA (BM.over SL (v.first+v.width) ((List.range v.width).map fun i=>SL.getD (v.first+i) 0));have F:=G1.rd TR;have E:=G1.qD TI;refine aH ((L.lay.smt G1.base).at_) fun dq1 u_ hq1 _=>?_;have Y:=iW hq1 TL;have hF1:=G1.fr f (aFh ..);walk_at"9";refine⟨_,cT.of G1.nl,_,pF rfl,?_⟩;walk_at"9";refine⟨.inl ⟨rfl,_,cT.of hF1.wd⟩,_,hF1.wd,?_,?_⟩
   ·rw[bM,aFj,sizeLine_eq,a4,L.fit.a];have:=L.sb.al;lia
   rw[GQ];have G2:=G1.VB (v.width::f.widths);obtain⟨dp2,hp2⟩:=G2.at_;refine cO hp2 TR.cl TR.first (by show 4<1000;decide) ?_;rw[v.BF];have G3:=G2.qQ (dx:=dp2) (v':={v with first:=v.first+v.width}) rfl rfl;refine k2 _ _ _ _ G3 ?_;rw[ha'];have hcopy:(List.range v.width).map (fun i=>SL.getD (v.first+i) 0)=s.row:=by
    rw[hwi];refine Eq.trans (aFE fun i hi=>?_) ((BM.mI id s.row).trans (List.map_id s.row));have hi':=List.mem_range.mp hi;rw[hpre,BM.kR (by rw[hfi]),BM.iY hi'];rfl
   rw[hcopy];refine⟨⟨a1,a2,a3,?_,a5⟩,L.A.rest,?_,hwi,⟨rest.drop s.row.length,?_⟩,?_,?_⟩
   ·show v.width::f.widths=s.row.length::s.aside.map List.length;rw[hwi,a4]
   ·show v.first+v.width=(BM.flat l++(s.row::s.aside).reverse.flatten).length;rw[hfi,hwi];unfold cF;rw[aFr,List.flatten_append];simp only[aFb,aFI,List.flatten_nil,List.append_nil];lia
   ·show BM.over SL (v.first+v.width) s.row=(BM.flat l++(s.row::s.aside).reverse.flatten)++(s.row++rest.drop s.row.length);rw[hpre,←aFJ,BM.mF (by rw[aFb,hfi,hwi])];unfold cF;rw[aFr,List.flatten_append];simp only[aFJ,aFI,List.flatten_nil,List.append_nil]
   ·rw[BM.fZ (by lia)];exact hlen
   ·exact BM.pN L.A.lt L.fit.v
end
local macro_rules | `(tactic| walk_at"8")=>sm true (PX++W5++ZY) (mV++mL++lK++eS++fO++eM)
abbrev aAm:Stmt:=top 78
theorem OH:bJ ["run","layer","f","i"] ["run","layer"] (bC aAm):=bV (by kernel_rfl)
abbrev pX:Stmt:=top 82
theorem yJ:bJ ["run","layer"] ["run","layer"] (bC pX):=bV (by kernel_rfl)
abbrev wF:Stmt:=top 83
theorem tS:bJ ["run","layer","innermost"] ["run","layer"] (bC wF):=bV (by kernel_rfl)
abbrev CQ:Stmt:=top 84
theorem qT:bJ ["run","layer","innermost","loop"] ["run","layer"] (bC CQ):=bV (by kernel_rfl)
theorem KN{H:Hp}{a:Addr}{o:HO}(h:H a=some o):H=upd H a o:=by
 funext b;unfold upd
 split
 ·rename_i e;rw[e];exact h
 ·rfl
theorem LCtx.SA{K:W.Frag}{CI CR CL:Addr}{Ts:TL}{H0 H H1:Hp}{p q:Addr}{v v1:RV}{SL SL1:List Nat}{f:FV}{r fs1:List FV}{hv:List V}{Ln k:Nat}{s:Br.At}{l:List Br.Frame}{t:Br.Told}{u:LV}{dq:Addr}(L:LCtx CI CR CL Ts H0 H p q v SL f r hv Ln k s l t)(hq:H q=some (.ins CL dq u.fs))(G1:dL CI CR Ts H0 H1 p v1 SL1 fs1)(TL:mW K CL):
  aDd K H1 q u∧H1 q=some (.ins CL dq u.fs)∧H1 u.numbers=some (.lst (nums (eW t.layer)))∧H1 u.singles=some (.lst (nums (sP t.layer)))∧∃ cols,H1 u.columns=some (.lst cols)∧∀ m wv c,t.layer= .dense m wv c→vL H1 t.before.w m wv cols:=by
 (refine aI L.lay.at_ fun dx u' h0 h1 h2 h3 h4 bO=>?_;refine aG bO fun h5 h6 cA h9=>?_;refine aA cA fun cols h7 h8=>?_);have nl:∀ {xs:List V},∀ ps,HO.lst xs≠.qA ps:=fun _ z=>by cases z
 have ni:∀ ps,HO.ins CL dx u'.fs≠.qA ps:=fun _ z=>by cases z
 have e:=L.C.base _ _ h0 ni;rw[hq] at e;have e':=aFa e;injection e' with _ e2 e3
 have eu:u=u':=by
  obtain⟨x1,x2,x3,x4,x5,x6,x7,x8⟩:=u;obtain⟨y1,y2,y3,y4,y5,y6,y7,y8⟩:=u';unfold LV.fs at e3;simp only[List.cons.injEq,Prod.mk.injEq,V.int.injEq,V.ref.injEq,Int.natCast_inj,true_and,and_true] at e3;(refine aK e3 fun dF eX hE p9 AS KJ=>?_;refine aF KJ fun NO zz9 NP=>?_;subst dF;subst eX;subst hE;subst p9;subst AS;subst NO;subst zz9;subst NP);rfl
 subst eu e2;have hq1:=G1.base _ _ h0 ni;exact⟨iW hq1 TL,hq1,G1.base _ _ h6 nl,G1.base _ _ h9 nl,cols,G1.base _ _ h7 nl,fun m wv c e=>(h8 m wv c e).keep fun a l x=>G1.base _ _ x nl⟩
section
variable{P:Program}{w:World}{K:W.Frag}{mg:Str→Option Value}{base:Heap}{CI CR CL:Addr}{Ts:TL}
theorem aBi(D:Def K mg "cut" aAm ["run","layer"])(TI:lN K CI)(TR:kS K CR)(TL:mW K CL)(T:Txt K mg):Own P w K mg base "cut" ["run","layer"] 1 (dN CI CR CL Ts (fun c=>∃ f m,c= .slice f m)):=by
 refine D.own OH (fun vs H Q E h=>dP h) (fun fa cdv A outer s0 H vs Q Ex hr h=>?_)
 ·skip;obtain⟨H0,p,q,v,SL,f,r,hv,Ln,k,s,l,t,s',rfl,hP,L,ha,k2⟩:=h;have G:=L.C;have F:=G.rd TR;have E:=G.qD TI;(refine aI ((L.lay.smt G.base).at_) fun dq u hq u1 u2 u3 u4 bO=>?_;refine aG bO fun u5 u6 cA u9=>?_;refine aA cA fun cols u7 u8=>?_);have Y:=iW hq TL;have hF:=G.fr f (aFh ..);obtain⟨dp,hp⟩:=G.at_;refine aL L.A.top fun a1 a2 a3 a4 a5=>?_;obtain⟨rest,hpre⟩:=L.A.pre;have hlen:=L.A.len;have hfi:=L.A.first;have hwi:=L.A.width;have yX:=L.PJ;have UR:(cF s l).length=(BM.flat l).length+Br.total t.before.aside:=by
   unfold cF;rw[aFb,BM.dI,L.fit.a]
  have hw2:=L.fit.w;have UP:=L.sb.ok.2.1;refine aW hP fun f0 m hP'=>?_;rw[hP'] at ha u6 u4;have ha':=(aFa ha).symm;have hwn:u.wn=m:=u4;have hto:=L.wide;rw[hP'] at hto;have hto':(!Br.sizeOk m||decide (t.before.w<f0+m))=false:=hto;rw[Bool.or_eq_false_iff] at hto';have hm:=BM.eQ hto'.1;have hfm:=of_decide_eq_false hto'.2;have ZU:v.first+v.width≤SL.length:=by
   rw[hpre];simp only[aFb];lia
  refine⟨_,(aZ (bK (i:=2) OH.nd rfl (Or.inl rfl) (cC bZ (bB (pv 1) rfl) a8 (fun _ _=>rfl)))
   (aZ (dG (jD PassesOwn.never rfl (eF rfl T.range (aY (bB (pv 1) rfl) a6)) (dM (i:=3) OH.nd rfl (Or.inl rfl)) (bA (mD (cC bZ (bB (pv 0) rfl) (bH bX (bH bX (bB (pv 0) rfl) (pv 2)) (pv 3)) (fun _ _=>rfl)) (mE (bB (pv 0) rfl) (bH bX (bB (pv 0) rfl) (pv 3)) set_list)))))
   (bA (cP (pv 0) (bB (pv 1) rfl) rfl)))),?_⟩
  walk_at"9";refine⟨_,cT.of u6,_,cW (i:=0) (by show 0<2;decide) rfl,?_⟩;rw[show (eW (Br.Layer.slice f0 m)).getD 0 0=f0 from rfl];refine⟨fun σ' H'=>σ'.take 3=[some (.ref p),some (.ref q),some (.int (f0:Nat))]∧σ'.length=4∧H'=upd H v.S (.lst (nums (BM.over SL v.first ((List.range m).map fun i=>SL.getD (v.first+f0+i) 0)))),?_,?_⟩
  ·walk_at"9";rw[hwn];refine⟨by lia,by lia,fM (lo:=0) (n:=((m:Nat):Int).toNat) (fun i σ' H'=>(∃ z,σ'=[some (.ref p),some (.ref q),some (.int (f0:Nat)),z])∧H'=upd H v.S (.lst (nums (BM.over SL v.first ((List.range i).map fun i=>SL.getD (v.first+f0+i) 0))))) ⟨⟨none,rfl⟩,?_⟩ ?_ ?_⟩
   ·rw[List.range_zero,List.map_nil,BM.o5];exact KN G.sl
   ·rintro i σ' H' hi ⟨⟨z,rfl⟩,rfl⟩;rw[aFl] at hi;have G1:=G.CA (BM.over SL v.first ((List.range i).map fun i=>SL.getD (v.first+f0+i) 0));have F:=G1.rd TR;have E:=G1.qD TI;obtain⟨Y,_⟩:=L.SA hq G1 TL;have hol:(BM.over SL v.first ((List.range i).map fun i=>SL.getD (v.first+f0+i) 0)).length=SL.length:=BM.fZ (by rw[BM.bW];lia);walk_at"9";refine⟨_,cT.of G1.sl,_,cW (i:=v.first+f0+i) (by lia) (by lia),_,G1.sl,v.first+i,uC (by lia) (by rw[bM,hol];lia),⟨_,rfl⟩,?_⟩;rw[dD,jF,BM.rK (by rw[BM.bW];lia) (.inr (by rw[BM.bW];lia))];have:=BM.o4 (S:=SL) (ys:=(List.range i).map fun i=>SL.getD (v.first+f0+i) 0) (a:=v.first) (y:=SL.getD (v.first+f0+i) 0) (by rw[BM.bW];lia);rw[BM.bW] at this;rw[this,←BM.gN]
   ·rintro σ' H' ⟨⟨z,rfl⟩,rfl⟩;rw[aFl];exact⟨rfl,rfl,rfl⟩
  ·rintro σ' H' ⟨hs1,hs2,rfl⟩;obtain⟨b1,b2,b3,z,rfl⟩:=ex4 hs2;simp only[List.take,List.cons.injEq,and_true] at hs1;(refine aF hs1 fun dF eX hE=>?_;subst dF;subst eX;subst hE);have G1:=G.CA (BM.over SL v.first ((List.range m).map fun i=>SL.getD (v.first+f0+i) 0));have F:=G1.rd TR;have E:=G1.qD TI;obtain⟨Y,_⟩:=L.SA hq G1 TL;obtain⟨dp2,hp2⟩:=G1.at_;walk_at"9";refine cO hp2 TR.cl TR.width (by show 4<1000;decide) ?_;rw[v.wO,hwn];have G3:=G1.qQ (dx:=dp2) (v':={v with width:=m}) rfl rfl;refine k2 _ _ _ _ G3 ?_;rw[ha'];have hcopy:(List.range m).map (fun i=>SL.getD (v.first+f0+i) 0)=(s.row.drop f0).take m:=by
    rw[←BM.T6 (by lia)];refine aFE fun i hi=>?_;have hi':=List.mem_range.mp hi;rw[hpre,BM.kR (i:=f0+i) (by lia),BM.iY (by lia)]
   rw[hcopy];have hcl:((s.row.drop f0).take m).length=m:=by
    rw[aFq,aFp];lia
   refine⟨⟨a1,a2,a3,a4,a5⟩,L.A.rest,hfi,hcl.symm,⟨(s.row++rest).drop m,?_⟩,?_,?_⟩
   ·show BM.over SL v.first ((s.row.drop f0).take m)=cF s l++((s.row.drop f0).take m++(s.row++rest).drop m);rw[hpre,BM.mF hfi,hcl]
   ·rw[BM.fZ (by lia)];exact hlen
   ·exact BM.pN L.A.lt fun x hx=>L.fit.v x (BM.wY hx)
theorem yR(D:Def K mg "find_greatest" pX ["run","layer"])(TI:lN K CI)(TR:kS K CR)(TL:mW K CL)(sI:Own P w K mg base "single_of" ["number"] 1 pG)(eN:Own P w K mg base "greatest_place" ["singles","first","width"] 2 (gC K)):Own P w K mg base "find_greatest" ["run","layer"] 3 (dN CI CR CL Ts (·= .greatest)):=by
 refine D.own yJ (fun vs H Q E h=>dP h) (fun fa cdv A outer s0 H vs Q Ex hr h=>?_)
 ·skip;obtain⟨H0,p,q,v,SL,f,r,hv,Ln,k,s,l,t,s',rfl,hP,L,ha,k2⟩:=h;have G:=L.C;have F:=G.rd TR;have E:=G.qD TI;(refine aI ((L.lay.smt G.base).at_) fun dq u hq u1 u2 u3 u4 bO=>?_;refine aG bO fun u5 u6 cA u9=>?_;refine aA cA fun cols u7 u8=>?_);have Y:=iW hq TL;have hF:=G.fr f (aFh ..);obtain⟨dp,hp⟩:=G.at_;refine aL L.A.top fun a1 a2 a3 a4 a5=>?_;obtain⟨rest,hpre⟩:=L.A.pre;have hlen:=L.A.len;have hfi:=L.A.first;have hwi:=L.A.width;have yX:=L.PJ;have UR:(cF s l).length=(BM.flat l).length+Br.total t.before.aside:=by
   unfold cF;rw[aFb,BM.dI,L.fit.a]
  have hw2:=L.fit.w;have UP:=L.sb.ok.2.1;have hP':t.layer= .greatest:=hP;rw[hP'] at ha;have ha':=(aFa ha).symm;have hw1:=L.sb.ok.1;have ZU:v.first+v.width≤SL.length:=by
   rw[hpre];simp only[aFb];lia
  have hrow:(SL.drop v.first).take v.width=s.row:=by
   rw[hpre,hfi,hwi,List.drop_left,List.take_left]
  have hgl:=BM.AI (l:=s.row) (fun e=>by rw[e] at hw2;simp at hw2;lia);refine⟨_,(aZ (mD (bN sI hr (by decide) rfl (aY (bN eN hr (by decide) rfl (aY (bB (pv 0) rfl) (aY (bB (pv 0) rfl) (aY (bB (pv 0) rfl) a6)))) a6)) (mE (bB (pv 0) rfl) (bB (pv 0) rfl) set_list))
   (bA (cP (pv 0) a8 rfl))),?_⟩
  walk_at"9";refine⟨v.S,SL,v.first,v.width,rfl,cT.of G.sl,ZU,by lia,by lia,L.A.lt,?_⟩;rw[hrow];refine⟨_,rfl,by lia,?_⟩;walk_at"9";refine⟨_,G.sl,v.first,uC rfl (by rw[bM];lia),?_⟩;rw[jF];have G1:=G.CA (SL.set v.first (Br.wholeSingle (Br.greatest s.row)));obtain⟨dp2,hp2⟩:=G1.at_;refine cO hp2 TR.cl TR.width (by show 4<1000;decide) ?_;rw[show (1:Int)=((1:Nat):Int) from rfl,v.wO];have G3:=G1.qQ (dx:=dp2) (v':={v with width:=1}) rfl rfl;refine k2 _ _ _ _ G3 ?_;rw[ha'];have hov:SL.set v.first (Br.wholeSingle (Br.greatest s.row))=BM.over SL v.first [Br.wholeSingle (Br.greatest s.row)]:=by
   have:=BM.o4 (S:=SL) (ys:=[]) (a:=v.first) (y:=Br.wholeSingle (Br.greatest s.row)) (by simp;lia);rw[BM.o5] at this;exact this
  rw[hov];refine⟨⟨a1,a2,a3,a4,a5⟩,L.A.rest,hfi,rfl,⟨(s.row++rest).drop 1,?_⟩,?_,?_⟩
  ·show BM.over SL v.first [Br.wholeSingle (Br.greatest s.row)]=cF s l++([Br.wholeSingle (Br.greatest s.row)]++(s.row++rest).drop 1);rw[hpre,BM.mF hfi];rfl
  ·rw[BM.fZ (by simp;lia)];exact hlen
  ·refine BM.pN L.A.lt fun x hx=>?_;rw[aFF.mp hx];exact BM.qG (by lia)
theorem FI(D:Def K mg "begin_loop" wF ["run","layer"])(TI:lN K CI)(TR:kS K CR)(TL:mW K CL):Own P w K mg base "begin_loop" ["run","layer"] 1 (dN CI CR CL Ts (fun c=>∃ n,c= .loop n)):=by
 refine D.own tS (fun vs H Q E h=>dP h) (fun fa cdv A outer s0 H vs Q Ex hr h=>?_)
 ·skip;obtain⟨H0,p,q,v,SL,f,r,hv,Ln,k,s,l,t,s',rfl,hP,L,ha,k2⟩:=h;have G:=L.C;have F:=G.rd TR;have E:=G.qD TI;(refine aI ((L.lay.smt G.base).at_) fun dq u hq u1 u2 u3 u4 bO=>?_;refine aG bO fun u5 u6 cA u9=>?_;refine aA cA fun cols u7 u8=>?_);have Y:=iW hq TL;have hF:=G.fr f (aFh ..);obtain⟨dp,hp⟩:=G.at_;refine aL L.A.top fun a1 a2 a3 a4 a5=>?_;obtain⟨rest,hpre⟩:=L.A.pre;have hlen:=L.A.len;have hfi:=L.A.first;have hwi:=L.A.width;have yX:=L.PJ;have UR:(cF s l).length=(BM.flat l).length+Br.total t.before.aside:=by
   unfold cF;rw[aFb,BM.dI,L.fit.a]
  have hw2:=L.fit.w;have UP:=L.sb.ok.2.1;obtain⟨n,hP'⟩:=hP;rw[hP'] at ha u6;have ha':=(aFa ha).symm;have hst:=L.stray;rw[hP'] at hst;have hst':(decide (n<2)||decide (Br.TIMES<t.before.often*n))=false:=hst;rw[Bool.or_eq_false_iff] at hst';have hn2:=of_decide_eq_false hst'.1;refine aA hF.lp fun ls hls hLp=>?_;have hll:=L.ll;refine⟨_,(aZ (bK (i:=2) tS.nd rfl (Or.inl rfl) (cC bZ (bB (pv 0) rfl) (fD dZ a8) (fun _ _=>rfl)))
   (bA (dA (o0 PySem.F.plainAttrs_list PySem.F.slot_list_append PySem.F.type_list_append fK (bB (pv 2) rfl) (aY (fC (aY (bB (pv 2) rfl) (aY (bH eU (cC bZ (bB (pv 1) rfl) a8 (fun _ _=>rfl)) a8) a6))) a6))))),?_⟩
  walk_at"8";refine⟨_,cT.of G.nl,_,pF rfl,?_⟩;walk_at"8";refine⟨.inl ⟨rfl,_,cT.of hls⟩,_,cT.of u6,_,cW (i:=0) (by show 0<1;decide) rfl,?_⟩;rw[show (eW (Br.Layer.loop n)).getD 0 0=n from rfl];walk_at"8";refine⟨by decide,fun tt htt=>?_⟩;have sm:=a9 (o:= .tup [V.int (f.number:Nat),V.int ((n:Int)-1)]) htt;have G1:=G.same sm;refine⟨_,sm _ _ hls,?_,?_⟩
  ·rw[aFj,hLp.len,a5,aFd,sizeLine_eq];lia
  have hL2:A8 (upd H tt (.tup [V.int (f.number:Nat),V.int ((n:Int)-1)])) (V.ref tt::ls) ((f.number,n-1)::f.loops):=by
   refine⟨⟨tt,rfl,?_⟩,hLp.keep fun t xs e=>sm _ _ e⟩;rw[a7,show (n:Int)-1=((n-1:Nat):Int) from by lia]
  have G2:=G1.VC hL2;rw[aFr] at G2;refine k2 _ _ _ _ G2 ?_;rw[ha'];refine⟨⟨a1,a2,a3,a4,?_⟩,L.A.rest,hfi,hwi,⟨rest,hpre⟩,hlen,L.A.lt⟩;show (f.number,n-1)::f.loops=((s.pc,n)::s.loops).map fun e=>(e.1+1,e.2-1);rw[List.map_cons,a5,a3]
theorem LX(D:Def K mg "end_loop" CQ ["run","layer"])(TI:lN K CI)(TR:kS K CR)(TL:mW K CL):Own P w K mg base "end_loop" ["run","layer"] 1 (dN CI CR CL Ts (·= .back)):=by
 refine D.own qT (fun vs H Q E h=>dP h) (fun fa cdv A outer s0 H vs Q Ex hr h=>?_)
 ·skip;obtain⟨H0,p,q,v,SL,f,r,hv,Ln,k,s,l,t,s',rfl,hP,L,ha,k2⟩:=h;have G:=L.C;have F:=G.rd TR;have E:=G.qD TI;(refine aI ((L.lay.smt G.base).at_) fun dq u hq u1 u2 u3 u4 bO=>?_;refine aG bO fun u5 u6 cA u9=>?_;refine aA cA fun cols u7 u8=>?_);have Y:=iW hq TL;have hF:=G.fr f (aFh ..);obtain⟨dp,hp⟩:=G.at_;refine aL L.A.top fun a1 a2 a3 a4 a5=>?_;obtain⟨rest,hpre⟩:=L.A.pre;have hlen:=L.A.len;have hfi:=L.A.first;have hwi:=L.A.width;have yX:=L.PJ;have UR:(cF s l).length=(BM.flat l).length+Br.total t.before.aside:=by
   unfold cF;rw[aFb,BM.dI,L.fit.a]
  have hw2:=L.fit.w;have UP:=L.sb.ok.2.1;have hP':t.layer= .back:=hP;rw[hP'] at ha;refine aA hF.lp fun ls hls hLp=>?_;have hll:=L.ll;refine⟨_,(aZ (bK (i:=2) qT.nd rfl (Or.inl rfl) (cC bZ (bB (pv 0) rfl) (fD dZ a8) (fun _ _=>rfl)))
   (aZ (bK (i:=3) qT.nd rfl (Or.inl rfl) (rH PySem.F.plainAttrs_list PySem.F.slot_list_pop PySem.F.type_list_pop vC (bB (pv 2) rfl)))
   (bA (cE (bU (jN (cC dS (pv 3) a8 (fun _ _=>rfl)) a8)) (aZ (dA (o0 PySem.F.plainAttrs_list PySem.F.slot_list_append PySem.F.type_list_append fK (bB (pv 2) rfl) (aY (fC (aY (cC dS (pv 3) a8 (fun _ _=>rfl)) (aY (bH eU (cC dS (pv 3) a8 (fun _ _=>rfl)) a8) a6))) a6)))
   (bA (cP (pv 2) (cC dS (pv 3) a8 (fun _ _=>rfl)) rfl))) bT)))),?_⟩
  cases el:s.loops with
  | nil=>unfold Br.At.after at ha;rw[el] at ha;cases ha
  | cons e es=>
   obtain⟨j,n⟩:=e;unfold Br.At.after at ha;rw[el] at ha;dsimp only at ha;rw[el,List.map_cons] at a5;rw[a5] at hLp
   cases ls with
   | nil=>exact hLp.elim
   | cons y ys=>
    obtain⟨⟨tt,rfl,htt⟩,hLr⟩:=hLp;walk_at"8";refine⟨_,cT.of G.nl,_,pF rfl,?_⟩;walk_at"8";refine⟨.inl ⟨rfl,_,cT.of hls⟩,f.lp,_,V.ref tt,rfl,rfl,hls,?_,?_⟩
    ·rw[aFj,List.length_cons,Nat.add_sub_cancel,aFr,aFu (by rw[aFj];exact aFi _),aFj,Nat.sub_self];rfl
    walk_at"8";rw[aFr,List.dropLast_concat];have G1:=G.VC hLr;have ntt:tt≠f.lp:=fun z=>by
     rw[z,hls] at htt;cases htt
    have ZP:(upd H f.lp (.lst ys.reverse)) tt=some (.tup [.int ((j+1:Nat):Int),.int ((n-1:Nat):Int)]):=by rw[bF ntt];exact htt
    have F:=G1.rd TR;have E:=G1.qD TI;obtain⟨Y,_⟩:=L.SA hq G1 TL;have hF1:=G1.fr _ (aFh ..);refine aA hF1.lp fun ls1 hls1 aEX=>?_;have els:ls1.reverse=ys.reverse:=by
     have e1:(upd H f.lp (.lst ys.reverse)) f.lp=some (.lst ls1.reverse):=hls1;rw[a7] at e1;have:=aFa e1;injection this with this
     exact this.symm
    walk_at"8";refine⟨_,gF.of ZP,V.int ((n-1:Nat):Int),rfl,_,rfl,cZ (fun c=>?_) (fun c=>?_)⟩
    ·have c':¬n≤1:=by
      have:=aFf c;lia
     rw[if_neg c'] at ha;have ha':=(aFa ha).symm;refine⟨.inl ⟨rfl,_,cT.of a7⟩,_,gF.of ZP,V.int ((j+1:Nat):Int),rfl,_,gF.of ZP,V.int ((n-1:Nat):Int),rfl,?_⟩;walk_at"8";refine⟨by decide,fun t2 ht2=>?_⟩;generalize hH1:upd H f.lp (.lst ys.reverse)=H1 at *;have sm:=a9 (o:= .tup [V.int ((j+1:Nat):Int),V.int (((n-1:Nat):Int)-1)]) ht2;have G2:=G1.same sm;have hl1:H1 f.lp=some (.lst ys.reverse):=by rw[←hH1];exact a7
     refine⟨_,sm _ _ hl1,?_,?_⟩
     ·rw[aFj,hLr.len,aFd,sizeLine_eq];rw[el,List.length_cons] at hll;lia
     have hL2:A8 (upd H1 t2 (.tup [V.int ((j+1:Nat):Int),V.int (((n-1:Nat):Int)-1)])) (V.ref t2::ys) ((j+1,n-1-1)::es.map fun e=>(e.1+1,e.2-1)):=by
      refine⟨⟨t2,rfl,?_⟩,?_⟩
      ·rw[a7,show (((n-1:Nat):Int)-1)=((n-1-1:Nat):Int) from by lia]
      ·have hk:∀ t xs,H t=some (.tup xs)→H1 t=some (.tup xs):=fun t xs e=>by
        rw[←hH1,bF (fun z=>by rw[z,hls] at e;cases e)];exact e
       exact(hLr.keep hk).keep fun t xs e=>sm _ _ e
     have G3:=G2.VC hL2;rw[aFr] at G3;obtain⟨dx3,hx3⟩:=(G3.fr _ (aFh ..)).at_;have aEQ:tt≠f.lp:=ntt;have aEi:(upd (upd H1 t2 (.tup [V.int ((j+1:Nat):Int),V.int (((n-1:Nat):Int)-1)])) f.lp (.lst (ys.reverse++[V.ref t2]))) tt=some (.tup [.int ((j+1:Nat):Int),.int ((n-1:Nat):Int)]):=by
      rw[bF ntt];exact sm _ _ ZP
     refine⟨_,gF.of aEi,V.int ((j+1:Nat):Int),rfl,?_⟩;refine cO hx3 TI.cl TI.number (by show 5<1000;decide) ?_;rw[FV.LQ];have G4:=G3.setTop (dx:=dx3) (j+1);refine k2 _ _ _ _ G4 ?_;rw[ha'];refine⟨⟨a1,a2,rfl,a4,rfl⟩,L.A.rest,hfi,hwi,⟨rest,hpre⟩,hlen,L.A.lt⟩
    ·have c':n≤1:=by
      refine aFA fun z=>c (aFc ?_);lia
     rw[if_pos c'] at ha;have ha':=(aFa ha).symm;refine k2 _ _ _ _ G1 ?_;rw[ha'];exact⟨⟨a1,a2,a3,a4,rfl⟩,L.A.rest,hfi,hwi,⟨rest,hpre⟩,hlen,L.A.lt⟩
end
abbrev CN:Stmt:=top 67
theorem nA:bJ ["run","layer","shorts","place","j"] ["run","layer"] (bC CN):=bV (by kernel_rfl)
abbrev pY:Stmt:=top 80
theorem gT:bJ ["run","layer","widths","aside","first"] ["run","layer"] (bC pY):=bV (by kernel_rfl)
theorem P3(k:Nat)(wv:List Nat)(j:Nat):(column k wv j).length=k:=by
 unfold column;rw[aFd,aFy]
theorem T8{k i j:Nat}{wv:List Nat}(h:i<k):(column k wv j).getD i 0=wv.getD (Br.place k i j) 0:=by
 unfold column;rw[aFe,aFH,List.getElem?_range h];rfl
theorem HI{k j:Nat}{wv:List Nat}(h:∀ x∈wv,x<65536):∀ x∈column k wv j,x<65536:=fun x hx=>by
 unfold column at hx;(refine aA (aFz.mp hx) fun i _ bO=>?_;subst bO);exact BM.dB (by decide) h _
theorem LG{k m:Nat}{a wv c:List Nat}(ha:a.length=k):Br.rowProduct k m a (fun p=>wv.toArray.getD p 0) c=(List.range m).map fun j=>Br.sum (c.getD j 0) (Br.twos a.length (fun i=>a.getD i 0) fun i=>(column k wv j).getD i 0):=by
 unfold Br.rowProduct;dsimp only;refine aFE fun j _=>?_;rw[BM.dO,ha];congr 1;refine BM.uK (fun i _=>BM.dO _ _) (fun i hi=>?_);rw[BM.dO,T8 hi]
theorem aCj(A B C D:List Nat):dQ (dQ (dQ (A++(B++(C++D))) A.length B.length) (A.length+B.length) C.length) A.length (B.length+C.length)=A++(C++(B++D)):=by
 have h1:dQ (A++(B++(C++D))) A.length B.length=A++(B.reverse++(C++D)):=by
  unfold dQ;rw[List.take_left,List.drop_left,List.take_left,show A++(B++(C++D))=(A++B)++(C++D) from by simp,←aFb,List.drop_left]
 have h2:dQ (A++(B.reverse++(C++D))) (A.length+B.length) C.length=A++(B.reverse++(C.reverse++D)):=by
  unfold dQ;have e:A.length+B.length=(A++B.reverse).length:=by simp
  rw[show A++(B.reverse++(C++D))=(A++B.reverse)++(C++D) from by simp,e,List.take_left,List.drop_left,List.take_left,show (A++B.reverse)++(C++D)=((A++B.reverse)++C)++D from by simp,←aFb,List.drop_left];simp
 have h3:dQ (A++(B.reverse++(C.reverse++D))) A.length (B.length+C.length)=A++(C++(B++D)):=by
  unfold dQ;have e:B.length+C.length=(B.reverse++C.reverse).length:=by simp
  rw[List.take_left,List.drop_left,e,show B.reverse++(C.reverse++D)=(B.reverse++C.reverse)++D from by simp,List.take_left,show A++((B.reverse++C.reverse)++D)=(A++(B.reverse++C.reverse))++D from by simp,←aFb,List.drop_left];simp
 rw[h1,h2,h3]
section
variable{P:Program}{w:World}{K:W.Frag}{mg:Str→Option Value}{base:Heap}{CI CR CL:Addr}{Ts:TL}
theorem LU(D:Def K mg "multiply" CN ["run","layer"])(TI:lN K CI)(TR:kS K CR)(TL:mW K CL)(T:Txt K mg)(eP:Own P w K mg base "narrow" ["x"] 2 iS)(gX:Own P w K mg base "row_sum" ["s","a","b"] 4 (lT K)):Own P w K mg base "multiply" ["run","layer"] 5 (dN CI CR CL Ts (fun c=>∃ m wv cs,c= .dense m wv cs)):=by
 refine D.own nA (fun vs H Q E h=>dP h) (fun fa cdv A outer s0 H vs Q Ex hr h=>?_)
 ·skip;obtain⟨H0,p,q,v,SL,f,r,hv,Ln,k,s,l,t,s',rfl,hP,L,ha,k2⟩:=h;have G:=L.C;have F:=G.rd TR;have E:=G.qD TI;(refine aI ((L.lay.smt G.base).at_) fun dq u hq u1 u2 u3 u4 bO=>?_;refine aG bO fun u5 u6 cA u9=>?_;refine aA cA fun cols u7 u8=>?_);have Y:=iW hq TL;have hF:=G.fr f (aFh ..);obtain⟨dp,hp⟩:=G.at_;refine aL L.A.top fun a1 a2 a3 a4 a5=>?_;obtain⟨rest,hpre⟩:=L.A.pre;have hlen:=L.A.len;have hfi:=L.A.first;have hwi:=L.A.width;have yX:=L.PJ;have UR:(cF s l).length=(BM.flat l).length+Br.total t.before.aside:=by
   unfold cF;rw[aFb,BM.dI,L.fit.a]
  have hw2:=L.fit.w;have UP:=L.sb.ok.2.1;refine aE hP fun m wv cs hP'=>?_;rw[hP'] at ha u4 u9;have ha':=(aFa ha).symm;have hwn:u.wn=m:=u4;have u9':H u.singles=some (.lst (nums cs)):=u9;have hto:=L.wide;rw[hP'] at hto;have hm:=BM.eQ hto;have hlk:=L.lok;rw[hP'] at hlk;refine aG hlk fun k1 k2' k3 k4=>?_;have hroom:=L.room;rw[BM.JN,hP'] at hroom;have hr2:(BM.flat l).length+(Br.total t.before.aside+(t.before.w+m))≤Ln:=by
   have:BM.ZC (Br.Layer.dense m wv cs)=m:=rfl;lia
  have hw1:=L.sb.ok.1;have ZU:v.first+v.width≤SL.length:=by lia
  have aEO:v.first+m≤SL.length:=by lia
  refine⟨_,(aZ (LF (i:=2) (own:=[("place",3)]) rfl nA.nd rfl rfl (QO rfl rfl rfl rfl) (sT rfl T.range (aY (bB (pv 0) rfl) (aY (bH bX (bB (pv 0) rfl) (bB (pv 0) rfl)) a6))) (oB (by kernel_rfl)) (fun _ _ _ _ _=>dM (i:=3) nA.nd rfl (Or.inl rfl)) (fun _ _ _ _ _=>kH) (fun _ _ _ _ _=>(bN eP hr (by decide) rfl (aY (cC D6 (Q5 (pv 0) rfl) (pv 3) (fun _ _=>rfl)) a6))))
   (aZ (dG (jD PassesOwn.never rfl (eF rfl T.range (aY (bB (pv 1) rfl) a6)) (dM (i:=4) nA.nd rfl (Or.inl rfl)) (bA (mD (bN gX hr (by decide) rfl (aY (cC bZ (bB (pv 1) rfl) (pv 4) (fun _ _=>rfl)) (aY (pv 2) (aY (cC bZ (bB (pv 1) rfl) (pv 4) (fun _ _=>rfl)) a6)))) (mE (bB (pv 0) rfl) (bH bX (bB (pv 0) rfl) (pv 4)) set_list)))))
   (bA (cP (pv 0) (bB (pv 1) rfl) rfl)))),?_⟩
  walk_at"9";refine⟨_,_,⟨rfl,rfl⟩,⟨by lia,by lia,by lia,by lia⟩,fun D hD=>mJ (lo:=((v.first:Nat):Int)) (n:=(((v.first:Nat):Int)+((v.width:Nat):Int)-((v.first:Nat):Int)).toNat) (fun i H'=>Same H H'∧H' D=some (.lst (nums ((List.range i).map fun i=>Br.narrowed (SL.getD (v.first+i) 0))))) ⟨a9 hD,a7⟩ ?_ ?_⟩
  ·rintro i H' hi ⟨sm,h2⟩;have hi':i<v.width:=by lia
   have G1:=G.same sm;have F:=G1.rd TR;have E:=G1.qD TI;obtain⟨Y,_⟩:=L.SA hq G1 TL;walk_at"9";refine⟨_,cT.of G1.sl,_,cW (i:=v.first+i) (by lia) (by lia),_,rfl,BM.dB (by decide) L.A.lt _,_,h2,?_,fY sm hD _,?_⟩
   ·rw[bM,BM.bW,sizeLine_eq];lia
   ·rw[a7,←jX fun i=>Br.narrowed (SL.getD (v.first+i) 0)]
  ·rintro H1 ⟨sm,h2⟩;rw[show (((v.first:Nat):Int)+((v.width:Nat):Int)-((v.first:Nat):Int)).toNat=v.width from by lia] at h2;have hsh:(List.range v.width).map (fun i=>Br.narrowed (SL.getD (v.first+i) 0))=s.row.map Br.narrowed:=by
    rw[hwi,←BM.mI Br.narrowed s.row];refine aFE fun i hi=>?_;have hi':=List.mem_range.mp hi;rw[hpre,BM.kR (i:=i) (by rw[hfi]),BM.iY hi']
   rw[hsh] at h2;have G1:=G.same sm;have hDS:D≠v.S:=fun z=>by rw[z,G.sl] at hD;cases hD
   generalize hg:(fun j=>Br.sum (cs.getD j 0) (Br.twos (s.row.map Br.narrowed).length (fun i=>(s.row.map Br.narrowed).getD i 0) fun i=>(column t.before.w wv j).getD i 0))=g;have hglt:∀ j,g j<4294967296:=fun j=>by
    rw[←hg];show Br.sum _ _<_;rw[BM.IB];refine BM.vO (BM.dB (by decide) k4 _) (fun i=>BM.dB (by decide) (fun x hx=>?_) _) (fun i=>BM.dB (by decide) (HI k3) _) _;(refine aA (aFz.mp hx) fun y hy dF=>?_;subst dF);exact BM.dC (L.fit.v y hy)
   refine⟨fun σ' H'=>σ'.take 2=[some (.ref p),some (.ref q)]∧σ'.length=5∧∃ iB,dL CI CR Ts H0 H' p v iB (f::r)∧iB=BM.over SL v.first ((List.range m).map g),?_,?_⟩
   ·have F:=G1.rd TR;have E:=G1.qD TI;obtain⟨Y,_⟩:=L.SA hq G1 TL;walk_at"9";rw[hwn];refine⟨by lia,by lia,fM (lo:=0) (n:=((m:Nat):Int).toNat) (fun j σ' H'=>(∃ z,σ'=[some (.ref p),some (.ref q),some (.ref D),none,z])∧H' D=some (.lst (nums (s.row.map Br.narrowed)))∧∃ iB,dL CI CR Ts H0 H' p v iB (f::r)∧iB=BM.over SL v.first ((List.range j).map g)) ⟨⟨none,rfl⟩,h2,SL,G1,?_⟩ ?_ ?_⟩
    ·rw[List.range_zero,List.map_nil,BM.o5]
    ·rintro j σ' H' hj ⟨⟨z,rfl⟩,hD2,iB,G2,BK⟩;rw[aFl] at hj;have F:=G2.rd TR;have E:=G2.qD TI;(refine aL (L.SA hq G2 TL) fun Y _ _ hs3 eX=>?_;refine aA eX fun aEP hc2 hc3=>?_);rw[hP'] at hs3;obtain⟨hcl,aEw⟩:=hc3 m wv cs hP';refine aA (aEw j hj) fun ac hac hcv=>?_;have hol:iB.length=SL.length:=by rw[BK,BM.fZ (by rw[BM.bW];lia)]
     walk_at"9";refine⟨_,cT.of hs3,_,cW (i:=j) (by show j<cs.length;lia) (by lia),_,cT.of hc2,_,at_of (j:=j) (by lia) hac,cs.getD j 0,D,ac,s.row.map Br.narrowed,column t.before.w wv j,rfl,cT.of hD2,cT.of hcv,by rw[aFd,P3,hw2],by rw[aFd];lia,BM.dB (by decide) k4 _,?_,HI k3,fun H3 sm3=>?_⟩
     ·intro x hx;(refine aA (aFz.mp hx) fun y hy hE=>?_;subst hE);exact BM.dC (L.fit.v y hy)
     have G3:=G2.same sm3;have F:=G3.rd TR;have E:=G3.qD TI;obtain⟨Y,_⟩:=L.SA hq G3 TL;walk_at"9";refine⟨_,G3.sl,v.first+j,uC (by lia) (by rw[bM,hol];lia),⟨_,rfl⟩,by rw[bF hDS];exact sm3 _ _ hD2,iB.set (v.first+j) (g j),?_,?_⟩
     ·rw[←hg];have:=G3.CA (iB.set (v.first+j) (Br.sum (cs.getD j 0) (Br.twos (s.row.map Br.narrowed).length (fun i=>(s.row.map Br.narrowed).getD i 0) fun i=>(column t.before.w wv j).getD i 0)));rw[←jF] at this;exact this
     ·have:=BM.o4 (S:=SL) (ys:=(List.range j).map g) (a:=v.first) (y:=g j) (by rw[BM.bW];lia);rw[BM.bW] at this;rw[BK,this,←BM.gN]
    ·rintro σ' H' ⟨⟨z,rfl⟩,_,iB,G2,BK⟩;rw[aFl] at BK;exact⟨rfl,rfl,iB,G2,BK⟩
   ·rintro σ' H' ⟨hs1,hs2,iB,G2,BK⟩;obtain⟨b1,b2,b3,b4,b5,rfl⟩:=ex5 hs2;simp only[List.take,List.cons.injEq,and_true] at hs1;obtain⟨rfl,rfl⟩:=hs1;have F:=G2.rd TR;have E:=G2.qD TI;obtain⟨Y,_⟩:=L.SA hq G2 TL;obtain⟨dp2,hp2⟩:=G2.at_;walk_at"9";refine cO hp2 TR.cl TR.width (by show 4<1000;decide) ?_;rw[v.wO,hwn];have G3:=G2.qQ (dx:=dp2) (v':={v with width:=m}) rfl rfl;refine k2 _ _ _ _ G3 ?_;rw[ha'];have hrp:(List.range m).map g=Br.rowProduct s.row.length m (s.row.map Br.narrowed) (fun p=>wv.toArray.getD p 0) cs:=by
     rw[LG (by rw[aFd]),←hg,hw2]
    rw[hrp] at BK;have hrl:=BM.rE s.row.length m (s.row.map Br.narrowed) (fun p=>wv.toArray.getD p 0) cs;rw[←hrp] at BK hrl;subst BK;refine⟨⟨a1,a2,a3,a4,a5⟩,L.A.rest,hfi,?_,⟨(s.row++rest).drop m,?_⟩,?_,?_⟩
    ·show m=(Br.rowProduct s.row.length m (s.row.map Br.narrowed) (fun p=>wv.toArray.getD p 0) cs).length;rw[←hrp,hrl]
    ·show BM.over SL v.first ((List.range m).map g)=cF s l++(Br.rowProduct s.row.length m (s.row.map Br.narrowed) (fun p=>wv.toArray.getD p 0) cs++(s.row++rest).drop m);rw[←hrp,hpre,BM.mF hfi,hrl]
    ·rw[BM.fZ (by rw[hrl];lia)];exact hlen
    ·refine BM.pN L.A.lt fun x hx=>?_;(refine aA (aFz.mp hx) fun j _ p9=>?_;subst p9);exact hglt j
theorem yS(D:Def K mg "change_places" pY ["run","layer"])(TI:lN K CI)(TR:kS K CR)(TL:mW K CL)(jI:Own P w K mg base "turn_round" ["singles","first","count"] 1 nQ):Own P w K mg base "change_places" ["run","layer"] 2 (dN CI CR CL Ts (·= .swap)):=by
 refine D.own gT (fun vs H Q E h=>dP h) (fun fa cdv A outer s0 H vs Q Ex hr h=>?_)
 ·skip;obtain⟨H0,p,q,v,SL,f,r,hv,Ln,k,s,l,t,s',rfl,hP,L,ha,k2⟩:=h;have G:=L.C;have F:=G.rd TR;have E:=G.qD TI;(refine aI ((L.lay.smt G.base).at_) fun dq u hq u1 u2 u3 u4 bO=>?_;refine aG bO fun u5 u6 cA u9=>?_;refine aA cA fun cols u7 u8=>?_);have Y:=iW hq TL;have hF:=G.fr f (aFh ..);obtain⟨dp,hp⟩:=G.at_;refine aL L.A.top fun a1 a2 a3 a4 a5=>?_;obtain⟨rest,hpre⟩:=L.A.pre;have hlen:=L.A.len;have hfi:=L.A.first;have hwi:=L.A.width;have yX:=L.PJ;have UR:(cF s l).length=(BM.flat l).length+Br.total t.before.aside:=by
   unfold cF;rw[aFb,BM.dI,L.fit.a]
  have hw2:=L.fit.w;have UP:=L.sb.ok.2.1;have hP':t.layer= .swap:=hP;rw[hP'] at ha;refine⟨_,(aZ (bK (i:=2) gT.nd rfl (Or.inl rfl) (bB (cC bZ (bB (pv 0) rfl) (fD dZ a8) (fun _ _=>rfl)) rfl))
   (aZ (bK (i:=3) gT.nd rfl (Or.inl rfl) (rH PySem.F.plainAttrs_list PySem.F.slot_list_pop PySem.F.type_list_pop vC (pv 2)))
   (aZ (bK (i:=4) gT.nd rfl (Or.inl rfl) (bH eU (bB (pv 0) rfl) (pv 3)))
   (aZ (dA (bN jI hr (by decide) rfl (aY (bB (pv 0) rfl) (aY (pv 4) (aY (pv 3) a6)))))
   (aZ (dA (bN jI hr (by decide) rfl (aY (bB (pv 0) rfl) (aY (bB (pv 0) rfl) (aY (bB (pv 0) rfl) a6)))))
   (aZ (dA (bN jI hr (by decide) rfl (aY (bB (pv 0) rfl) (aY (pv 4) (aY (bH bX (pv 3) (bB (pv 0) rfl)) a6)))))
   (aZ (dA (o0 PySem.F.plainAttrs_list PySem.F.slot_list_append PySem.F.type_list_append fK (pv 2) (aY (bB (pv 0) rfl) a6)))
   (aZ (cP (pv 0) (bH bX (pv 4) (bB (pv 0) rfl)) rfl)
   (bA (cP (pv 0) (pv 3) rfl)))))))))),?_⟩
  cases ea:s.aside with
  | nil=>unfold Br.At.after at ha;rw[ea] at ha;cases ha
  | cons y as=>
   unfold Br.At.after at ha;rw[ea] at ha;have ha':=(aFa ha).symm;rw[ea,List.map_cons] at a4;have JP:=pT (l:=l) ea;rw[JP] at hpre;rw[JP,aFb] at hfi;generalize hX:BM.flat l++as.reverse.flatten=X at hpre hfi JP;have X2:SL=X++(y++(s.row++rest)):=by rw[hpre];simp
   have aEW:SL.length=X.length+(y.length+(s.row.length+rest.length)):=by rw[X2];simp only[aFb]
   walk_at"8";refine⟨_,cT.of G.nl,_,pF rfl,?_⟩;walk_at"8";refine⟨.inl ⟨rfl,_,cT.of hF.wd⟩,f.wd,_,_,rfl,rfl,hF.wd,C9 a4,?_⟩;walk_at"8";rw[C8 a4];have G1:=G.VB (as.map List.length);have F:=G1.rd TR;have E:=G1.qD TI;obtain⟨Y,_⟩:=L.SA hq G1 TL;walk_at"8";refine⟨v.S,SL,X.length,y.length,?_,G1.sl,by lia,by lia,?_⟩
   ·rw[show ((v.first:Nat):Int)-((y.length:Nat):Int)=((X.length:Nat):Int) from by lia]
   have G2:=G1.CA (dQ SL X.length y.length);have F:=G2.rd TR;have E:=G2.qD TI;obtain⟨Y,_⟩:=L.SA hq G2 TL;have l2:=uW (S:=SL) (f:=X.length) (c:=y.length) (by lia);walk_at"8";refine⟨v.S,dQ SL X.length y.length,v.first,v.width,rfl,G2.sl,by lia,by lia,?_⟩;have G3:=G2.CA (dQ (dQ SL X.length y.length) v.first v.width);have F:=G3.rd TR;have E:=G3.qD TI;obtain⟨Y,_⟩:=L.SA hq G3 TL;have l3:=uW (S:=dQ SL X.length y.length) (f:=v.first) (c:=v.width) (by lia);walk_at"8";refine⟨v.S,dQ (dQ SL X.length y.length) v.first v.width,X.length,y.length+v.width,?_,G3.sl,by lia,by lia,?_⟩
   ·rw[show ((v.first:Nat):Int)-((y.length:Nat):Int)=((X.length:Nat):Int) from by lia,Int.natCast_add]
   have G4:=G3.CA (dQ (dQ (dQ SL X.length y.length) v.first v.width) X.length (y.length+v.width));have F:=G4.rd TR;have E:=G4.qD TI;obtain⟨Y,_⟩:=L.SA hq G4 TL;have hF4:=G4.fr _ (aFh ..);have e4:dQ (dQ (dQ SL X.length y.length) v.first v.width) X.length (y.length+v.width)=X++(s.row++(y++rest)):=by
    rw[X2,hfi,hwi];exact aCj X y s.row rest
   walk_at"8";refine⟨.inl ⟨rfl,_,cT.of hF4.wd⟩,_,hF4.wd,?_,?_⟩
   ·rw[bM,aFj,sizeLine_eq,aFd];have h1:=L.sb.al;have h2:=L.fit.a;rw[ea] at h2;rw[←h2,aFd,List.length_cons] at h1;lia
   walk_at"8";rw[GQ];have G5:=G4.VB (v.width::as.map List.length);obtain⟨dp5,hp5⟩:=G5.at_;have F:=G5.rd TR;have E:=G5.qD TI;obtain⟨Y,_⟩:=L.SA hq G5 TL;walk_at"8";refine cO hp5 TR.cl TR.first (by show 4<1000;decide) ?_;walk_at"8";rw[show ((v.first:Nat):Int)-((y.length:Nat):Int)+((v.width:Nat):Int)=((X.length+v.width:Nat):Int) from by lia,v.BF];refine cO a7 TR.cl TR.width (by show 4<1000;decide) ?_;rw[dD,RV.wO];have G6:=G5.qQ (dx:=dp5) (v':={v with first:=X.length+v.width,width:=y.length}) rfl rfl;refine k2 _ _ _ _ G6 ?_;rw[ha',e4];refine⟨⟨a1,a2,a3,?_,a5⟩,L.A.rest,?_,rfl,⟨rest,?_⟩,?_,?_⟩
   ·show v.width::as.map List.length=s.row.length::as.map List.length;rw[hwi]
   ·show X.length+v.width=(BM.flat l++(s.row::as).reverse.flatten).length;rw[←hX,hwi,aFr,List.flatten_append];simp only[aFb,aFI,List.flatten_nil,List.append_nil];lia
   ·show X++(s.row++(y++rest))=(BM.flat l++(s.row::as).reverse.flatten)++(y++rest);rw[←hX,aFr,List.flatten_append];simp only[aFJ,aFI,List.flatten_nil,List.append_nil]
   ·rw[←hlen,X2];simp only[aFb];lia
   ·intro x hx;refine L.A.lt x ?_;rw[X2];simp only[List.mem_append] at hx ⊢;rcases hx with h | h | h | h
    ·exact .inl h
    ·exact .inr (.inr (.inl h))
    ·exact .inr (.inl h)
    ·exact .inr (.inr (.inr h))
end
local macro_rules | `(tactic| walk_at"8")=>sm true (PX++W5++ZY) (mV++mL++lK++fO++eM)
local macro_rules | `(tactic| walk_at"o")=>sm false (PX) (mV++mL++lK++fO++eM)
local macro_rules | `(tactic| walk_at"e")=>sm true (PX++W5) (mV++mL++lK++fO++eM)
abbrev t8:Stmt:=top 68
theorem qW:bJ ["run","change","place"] ["run","change"] (bC t8):=bV (by kernel_rfl)
abbrev lA:Stmt:=top 74
theorem gM:bJ ["run","change","behind","i"] ["run","change"] (bC lA):=bV (by kernel_rfl)
abbrev QX:Stmt:=top 69
theorem VF:bJ ["run","layer"] ["run","layer"] (bC QX):=bV (by kernel_rfl)
def pE(cs:List (Addr×Str))(H:Hp):Prop:=∀ e∈cs,H e.1=some (CdO e.1 e.2)
theorem pE.same{cs:List (Addr×Str)}{H H':Hp}(h:pE cs H)(sm:Same H H'):pE cs H':=fun e he=>sm _ _ (h e he)
theorem pE.put{cs:List (Addr×Str)}{H:Hp}{b:Addr}{u o:HO}(h:pE cs H)(hb:H b=some u)(hu:∀ φ,u≠.ext φ):pE cs (upd H b o):=fun e he=>by
 rw[bF (fun z=>by rw[←z,h e he] at hb;exact hu _ (aFa hb).symm)];exact h e he
def aCk(cs:List (Addr×Str))(g:Nat→Nat):Sp:=fun vs H Q _=>pE cs H∧∃ x:Nat,vs=[.int x]∧x<4294967296∧∀ H',Same H H'→Q (.int (g x:Nat)) H'
def aAO(cs:List (Addr×Str))(g:Nat→Nat→Nat):Sp:=fun vs H Q _=>pE cs H∧∃ x y:Nat,vs=[.int x,.int y]∧x<4294967296∧y<4294967296∧∀ H',Same H H'→Q (.int (g x y:Nat)) H'
theorem FnB.mono{P:Program}{w:World}{K:W.Frag}{mg:Str→Option Value}{base:Heap}{f:Addr}{ps:List Str}{j k:Nat}{sp sp':Sp}(F:FnB P w K mg base f ps j sp)(h:j≤k)(hi:∀ vs H Q E,sp' vs H Q E→sp vs H Q E):FnB P w K mg base f ps k sp':=by
 refine aN F fun fd o h1 h2 h3 h4=>?_;exact⟨fd,o,h1,h2,h3,(h4.mono h).imp hi⟩
inductive fG(P:Program)(w:World)(K:W.Frag)(mg:Str→Option Value)(CI CR:Addr)(Ts:TL)(b:Heap)(vs:List V)(H:Hp)(Q:VK)(E:XK):Prop
 | mk (H0:Hp) (p fn:Addr) (v:RV) (SL:List Nat) (fs:List FV) (cs:List (Addr×Str)) (g:Nat→Nat) (_:vs=[.ref p,.ref fn]) (_:dL CI CR Ts H0 H p v SL fs) (_:v.first+v.width≤SL.length) (_:SL.length≤20000) (_:(∀ x∈SL,x<4294967296)) (_:pE cs H) (_:FnB P w K mg b fn ["x"] 4 (aCk cs g)) (_:∀ H',dL CI CR Ts H0 H' p v (BM.over SL v.first ((List.range v.width).map fun i=>g (SL.getD (v.first+i) 0))) fs→Q .non H'):fG P w K mg CI CR Ts b vs H Q E
inductive eY(P:Program)(w:World)(K:W.Frag)(mg:Str→Option Value)(CI CR:Addr)(Ts:TL)(b:Heap)(vs:List V)(H:Hp)(Q:VK)(E:XK):Prop
 | mk (H0:Hp) (p fn:Addr) (v:RV) (SL:List Nat) (f:FV) (r:List FV) (a:Nat) (ws:List Nat) (cs:List (Addr×Str)) (g:Nat→Nat→Nat) (_:vs=[.ref p,.ref fn]) (_:dL CI CR Ts H0 H p v SL (f::r)) (_:f.widths=a::ws) (_:a≤v.first) (_:v.first+v.width≤SL.length) (_:SL.length≤20000) (_:(∀ x∈SL,x<4294967296)) (_:pE cs H) (_:FnB P w K mg b fn ["x","y"] 4 (aAO cs g)) (_:∀ H',dL CI CR Ts H0 H' p {v with first:=v.first-a} (BM.over SL (v.first-a) ((List.range v.width).map fun i=>g (SL.getD (v.first+i) 0) (SL.getD (v.first-a+i) 0))) ({f with widths:=ws}::r)→Q .non H'):eY P w K mg CI CR Ts b vs H Q E
section
variable{P:Program}{w:World}{K:W.Frag}{mg:Str→Option Value}{base:Heap}{CI CR CL:Addr}{Ts:TL}
theorem DO(D:Def K mg "change_each" t8 ["run","change"])(TR:kS K CR)(TI:lN K CI)(T:Txt K mg):Own P w K mg base "change_each" ["run","change"] 5 (fG P w K mg CI CR Ts base):=by
 refine D.own qW (fun vs H Q E h=>?_) (fun fa cdv A outer s0 H vs Q Ex hr h=>?_)
 ·obtain⟨_,_,_,_,_,_,_,_,rfl,_⟩:=h;rfl
 ·obtain⟨H0,p,fn,v,SL,fs,cs,g,rfl,G,hb,hl,hlt,hcd,hfn,k⟩:=h;have F:=G.rd TR;refine⟨_,(bA (dG (jD PassesOwn.never rfl (sT rfl T.range (aY (bB (pv 0) rfl) (aY (bH bX (bB (pv 0) rfl) (bB (pv 0) rfl)) a6))) (dM (i:=2) qW.nd rfl (Or.inl rfl)) (bA (mD (LN (j:=4) (pv 1) hr (by decide) (aY (cC bZ (bB (pv 0) rfl) (pv 2) (fun _ _=>rfl)) a6)) (mE (bB (pv 0) rfl) (pv 2) set_list)))))),?_⟩;refine⟨fun σ' H'=>dL CI CR Ts H0 H' p v (BM.over SL v.first ((List.range v.width).map fun i=>g (SL.getD (v.first+i) 0))) fs,?_,fun σ' H' h=>k H' h⟩;walk_at"o";refine⟨_,_,⟨rfl,rfl⟩,⟨by lia,by lia,by lia,by lia⟩,fM (lo:=((v.first:Nat):Int)) (n:=(((v.first:Nat):Int)+((v.width:Nat):Int)-((v.first:Nat):Int)).toNat) (fun i σ' H'=>(∃ z,σ'=[some (.ref p),some (.ref fn),z])∧pE cs H'∧∃ iB,dL CI CR Ts H0 H' p v iB fs∧iB=BM.over SL v.first ((List.range i).map fun i=>g (SL.getD (v.first+i) 0))) ⟨⟨none,rfl⟩,hcd,SL,G,?_⟩ ?_ ?_⟩
  ·rw[List.range_zero,List.map_nil,BM.o5]
  ·rintro i σ' H' hi ⟨⟨z,rfl⟩,WX,iB,G1,BK⟩;have hi':i<v.width:=by lia
   have F:=G1.rd TR;have hol:iB.length=SL.length:=by rw[BK,BM.fZ (by rw[BM.bW];lia)]
   have hget:iB.getD (v.first+i) 0=SL.getD (v.first+i) 0:=by rw[BK,BM.rK (by rw[BM.bW];lia) (.inr (by rw[BM.bW];lia))]
   walk_at"o";refine⟨_,_,hfn,_,cT.of G1.sl,_,cW (i:=v.first+i) (by lia) (by lia),WX,_,rfl,by rw[hget];exact BM.dB (by decide) hlt _,fun H3 sm3=>?_⟩;have G3:=G1.same sm3;have F:=G3.rd TR;walk_at"o";refine⟨_,G3.sl,v.first+i,uC (by lia) (by rw[bM,hol];lia),⟨_,rfl⟩,(WX.same sm3).put G3.sl (fun φ z=>by cases z),iB.set (v.first+i) (g (SL.getD (v.first+i) 0)),?_,?_⟩
   ·rw[hget,jF];exact G3.CA _
   ·have:=BM.o4 (S:=SL) (ys:=(List.range i).map fun i=>g (SL.getD (v.first+i) 0)) (a:=v.first) (y:=g (SL.getD (v.first+i) 0)) (by rw[BM.bW];lia);rw[BM.bW] at this;rw[BK,this,←BM.gN fun i=>g (SL.getD (v.first+i) 0)]
  ·rintro σ' H' ⟨_,_,iB,G1,BK⟩;rw[show (((v.first:Nat):Int)+((v.width:Nat):Int)-((v.first:Nat):Int)).toNat=v.width from by lia] at BK;rw[←BK];exact G1
theorem rM(D:Def K mg "change_with_aside" lA ["run","change"])(TR:kS K CR)(TI:lN K CI)(T:Txt K mg):Own P w K mg base "change_with_aside" ["run","change"] 5 (eY P w K mg CI CR Ts base):=by
 refine D.own gM (fun vs H Q E h=>?_) (fun fa cdv A outer s0 H vs Q Ex hr h=>?_)
 ·obtain⟨_,_,_,_,_,_,_,_,_,_,_,rfl,_⟩:=h;rfl
 ·obtain⟨H0,p,fn,v,SL,f,r,a,ws,cs,g,rfl,G,hw,ha,hb,hl,hlt,hcd,hfn,k⟩:=h;have F:=G.rd TR;have E:=G.qD TI;have hF:=G.fr f (aFh ..);refine⟨_,(aZ (bK (i:=2) gM.nd rfl (Or.inl rfl) (bB (pv 0) rfl))
   (aZ (iV (pv 0) (rH PySem.F.plainAttrs_list PySem.F.slot_list_pop PySem.F.type_list_pop vC (bB (cC bZ (bB (pv 0) rfl) (fD dZ a8) (fun _ _=>rfl)) rfl)) RN)
   (bA (dG (jD PassesOwn.never rfl (eF rfl T.range (aY (bB (pv 0) rfl) a6)) (dM (i:=3) gM.nd rfl (Or.inl rfl)) (bA (mD (LN (j:=4) (pv 1) hr (by decide) (aY (cC bZ (bB (pv 0) rfl) (bH bX (pv 2) (pv 3)) (fun _ _=>rfl)) (aY (cC bZ (bB (pv 0) rfl) (bH bX (bB (pv 0) rfl) (pv 3)) (fun _ _=>rfl)) a6))) (mE (bB (pv 0) rfl) (bH bX (bB (pv 0) rfl) (pv 3)) set_list)))))))),?_⟩
  walk_at"e";refine⟨CR,_,v.fs,G.at_.choose_spec,TR.cl,TR.first,_,v.JJ,_,cT.of G.nl,_,pF rfl,?_⟩;walk_at"e";refine⟨.inl ⟨rfl,_,cT.of hF.wd⟩,f.wd,_,_,rfl,rfl,hF.wd,C9 hw,?_⟩;rw[C8 hw];have G1:=G.VB ws;obtain⟨XC,hp1⟩:=G1.at_;walk_at"e";refine⟨XC,v.fs,hp1,by show 4<1000;decide,?_⟩;walk_at"e";rw[show ((v.first:Nat):Int)-((a:Nat):Int)=((v.first-a:Nat):Int) from by lia,v.BF];have G2:=G1.qQ (dx:=XC) (v':={v with first:=v.first-a}) rfl rfl;have aCL:pE cs (upd (upd H f.wd (.lst (nums ws.reverse))) p (.ins CR XC (RV.fs {v with first:=v.first-a}))):=(hcd.put hF.wd (fun φ z=>by cases z)).put hp1 (fun φ z=>by cases z);generalize upd (upd H f.wd (.lst (nums ws.reverse))) p (.ins CR XC (RV.fs {v with first:=v.first-a}))=H2 at G2 aCL ⊢;generalize hv2:({v with first:=v.first-a}:RV)=v2 at G2 k;have e1:v2.first=v.first-a:=by rw[←hv2]
  have e2:v2.width=v.width:=by rw[←hv2]
  have F:=G2.rd TR;have E:=G2.qD TI;refine⟨fun σ' H'=>dL CI CR Ts H0 H' p v2 (BM.over SL (v.first-a) ((List.range v.width).map fun i=>g (SL.getD (v.first+i) 0) (SL.getD (v.first-a+i) 0))) ({f with widths:=ws}::r),?_,fun σ' H' h=>k H' h⟩;walk_at"e";rw[e2];refine⟨by lia,by lia,fM (lo:=0) (n:=((v.width:Nat):Int).toNat) (fun i σ' H'=>(∃ z,σ'=[some (.ref p),some (.ref fn),some (.int (v.first:Nat)),z])∧pE cs H'∧∃ iB,dL CI CR Ts H0 H' p v2 iB ({f with widths:=ws}::r)∧iB=BM.over SL (v.first-a) ((List.range i).map fun i=>g (SL.getD (v.first+i) 0) (SL.getD (v.first-a+i) 0))) ⟨⟨none,rfl⟩,aCL,SL,G2,?_⟩ ?_ ?_⟩
  ·rw[List.range_zero,List.map_nil,BM.o5]
  ·rintro i σ' H' hi ⟨⟨z,rfl⟩,WX,iB,G1,BK⟩;have hi':i<v.width:=by lia
   have F:=G1.rd TR;have E:=G1.qD TI;have hol:iB.length=SL.length:=by rw[BK,BM.fZ (by rw[BM.bW];lia)]
   have hget:iB.getD (v.first+i) 0=SL.getD (v.first+i) 0:=by rw[BK,BM.rK (by rw[BM.bW];lia) (.inr (by rw[BM.bW];lia))]
   have aAv:iB.getD (v.first-a+i) 0=SL.getD (v.first-a+i) 0:=by rw[BK,BM.rK (by rw[BM.bW];lia) (.inr (by rw[BM.bW];lia))]
   walk_at"e";refine⟨_,_,hfn,_,cT.of G1.sl,_,cW (i:=v.first+i) (by lia) (by lia),_,cT.of G1.sl,_,cW (i:=v.first-a+i) (by lia) (by lia),WX,_,_,rfl,by rw[hget];exact BM.dB (by decide) hlt _,by rw[aAv];exact BM.dB (by decide) hlt _,fun H3 sm3=>?_⟩;have G3:=G1.same sm3;have F:=G3.rd TR;have E:=G3.qD TI;walk_at"e";refine⟨_,G3.sl,v.first-a+i,uC (by lia) (by rw[bM,hol];lia),⟨_,rfl⟩,(WX.same sm3).put G3.sl (fun φ z=>by cases z),iB.set (v.first-a+i) (g (SL.getD (v.first+i) 0) (SL.getD (v.first-a+i) 0)),?_,?_⟩
   ·rw[hget,aAv,jF];exact G3.CA _
   ·have:=BM.o4 (S:=SL) (ys:=(List.range i).map fun i=>g (SL.getD (v.first+i) 0) (SL.getD (v.first-a+i) 0)) (a:=v.first-a) (y:=g (SL.getD (v.first+i) 0) (SL.getD (v.first-a+i) 0)) (by rw[BM.bW];lia);rw[BM.bW] at this;rw[BK,this,←BM.gN fun i=>g (SL.getD (v.first+i) 0) (SL.getD (v.first-a+i) 0)]
  ·rintro σ' H' ⟨_,_,iB,G1,BK⟩;rw[aFl] at BK;rw[←BK];exact G1
theorem LCtx.each{H0 H':Hp}{H:Hp}{p q:Addr}{v:RV}{SL:List Nat}{f:FV}{r:List FV}{hv:List V}{Ln k:Nat}{s s':Br.At}{l:List Br.Frame}{t:Br.Told}{g:Nat→Nat}(L:LCtx CI CR CL Ts H0 H p q v SL f r hv Ln k s l t)(es:s'=s.to (s.row.map g))(hg:∀ x,x<4294967296→g x<4294967296):
  XR hv Ln v (BM.over SL v.first ((List.range v.width).map fun i=>g (SL.getD (v.first+i) 0))) f r k s' l s'.pc:=by
 refine aL L.A.top fun a1 a2 a3 a4 a5=>?_;obtain⟨rest,hpre⟩:=L.A.pre;have hfi:=L.A.first;have hwi:=L.A.width;have hm:(List.range v.width).map (fun i=>g (SL.getD (v.first+i) 0))=s.row.map g:=by
  rw[hwi,←BM.mI g s.row];refine aFE fun i hi=>?_;have hi':=List.mem_range.mp hi;rw[hpre,BM.kR (i:=i) (by rw[hfi]),BM.iY hi']
 rw[hm,es];have hlen:SL.length=(cF s l).length+(s.row.length+rest.length):=by rw[hpre];simp only[aFb]
 refine⟨⟨a1,a2,a3,a4,a5⟩,L.A.rest,hfi,?_,⟨rest,?_⟩,?_,?_⟩
 ·show v.width=(s.row.map g).length;rw[aFd];exact hwi
 ·show BM.over SL v.first (s.row.map g)=cF s l++(s.row.map g++rest);rw[hpre,BM.mF hfi,aFd,List.drop_left]
 ·rw[BM.fZ (by rw[aFd];lia)];exact L.A.len
 ·refine BM.pN L.A.lt fun x hx=>?_;(refine aA (aFz.mp hx) fun y hy bO=>?_;subst bO);exact hg y (L.fit.v y hy)
theorem LCtx.fits{H0 H:Hp}{p q:Addr}{v:RV}{SL:List Nat}{f:FV}{r:List FV}{hv:List V}{Ln k:Nat}{s:Br.At}{l:List Br.Frame}{t:Br.Told}(L:LCtx CI CR CL Ts H0 H p q v SL f r hv Ln k s l t):v.first+v.width≤SL.length∧SL.length≤20000:=by
 obtain⟨rest,hpre⟩:=L.A.pre;have hfi:=L.A.first;have hwi:=L.A.width;have hlen:SL.length=(cF s l).length+(s.row.length+rest.length):=by rw[hpre];simp only[aFb]
 have:=L.PJ;have:=L.A.len;lia
theorem V3(D:Def K mg "clamp" QX ["run","layer"])(TI:lN K CI)(TR:kS K CR)(TL:mW K CL)(eB:Own P w K mg base "change_each" ["run","change"] 5 (fG P w K mg CI CR Ts base))(hcl:∃ f,mg "clamped"=some (.ref f)∧FnB P w K mg base f ["x"] 1 uS):Own P w K mg base "clamp" ["run","layer"] 6 (dN CI CR CL Ts (·= .clamp)):=by
 refine D.own VF (fun vs H Q E h=>dP h) (fun fa cdv A outer s0 H vs Q Ex hr h=>?_)
 ·skip;obtain⟨H0,p,q,v,SL,f,r,hv,Ln,k,s,l,t,s',rfl,hP,L,ha,k2⟩:=h;refine aA hcl fun fn UK hfn=>?_;have G:=L.C;have F:=G.rd TR;have E:=G.qD TI;(refine aI ((L.lay.smt G.base).at_) fun dq u hq u1 u2 u3 u4 bO=>?_;refine aG bO fun u5 u6 cA u9=>?_;refine aA cA fun cols u7 u8=>?_);have Y:=iW hq TL;have hF:=G.fr f (aFh ..);obtain⟨dp,hp⟩:=G.at_;refine aL L.A.top fun a1 a2 a3 a4 a5=>?_;obtain⟨rest,hpre⟩:=L.A.pre;have hlen:=L.A.len;have hfi:=L.A.first;have hwi:=L.A.width;have yX:=L.PJ;have UR:(cF s l).length=(BM.flat l).length+Br.total t.before.aside:=by
   unfold cF;rw[aFb,BM.dI,L.fit.a]
  have hw2:=L.fit.w;have UP:=L.sb.ok.2.1;have hP':t.layer= .clamp:=hP;rw[hP'] at ha;have ha':=(aFa ha).symm;refine⟨_,(bA (dA (bN eB hr (by decide) rfl (aY (pv 0) (aY (GS rfl UK) a6))))),?_⟩;walk_at"8";refine⟨H0,p,fn,v,SL,f::r,[],Br.clamped,rfl,G,L.fits.1,L.fits.2,L.A.lt,(fun e he=>(by cases he)),hfn.mono (j:=1) (k:=4) (by decide) (fun vs H Q E h=>?_),fun H' G'=>k2 _ _ _ _ G' (L.each (H':=H') ha' fun x hx=>BM.EI hx)⟩;(refine aD h fun _ dF=>?_;refine aC dF fun x eX hx q=>?_;subst eX);exact⟨x,rfl,hx,q H (Same.refl H)⟩
end
local macro_rules | `(tactic| walk_at"0")=>sm false ([]) (mV++mL++lK++fO++eM)
local macro_rules | `(tactic| walk_at"6")=>sm true ([]) (mV++mL++lK++fO++eM)
local macro_rules | `(tactic| walk_at"p")=>sm false (PX++W5++ZY) (mV++mL++eS++fO++eM)
local macro_rules | `(tactic| walk_at"m")=>sm true (PX++W5++ZY) (mV++mL++eS++fO++eM)
abbrev oO:Stmt:=top 70
theorem OF:bJ ["run","layer"] ["run","layer"] (bC oO):=bV (by kernel_rfl)
abbrev v7:Stmt:=top 71
theorem KY:bJ ["run","layer","s"] ["run","layer"] (bC v7):=bV (by kernel_rfl)
abbrev v6:Stmt:=top 72
theorem KW:bJ ["run","layer","s"] ["run","layer"] (bC v6):=bV (by kernel_rfl)
abbrev kQ:Stmt:=top 75
theorem IJ:bJ ["run","layer"] ["run","layer"] (bC kQ):=bV (by kernel_rfl)
abbrev fH:Stmt:=top 76
theorem vS:bJ ["run","layer"] ["run","layer"] (bC fH):=bV (by kernel_rfl)
def lC:List Stmt→Expr
 | .Expr (.Call _ [_,l] _ _) _::_=>l
 | _::r=>lC r
 | []=> .Name "" ⟨0,0,0,0⟩
def iQ:Expr→Pos
 | .Lambda _ _ _ p=>p
 | _=>⟨0,0,0,0⟩
structure TabOk(Ts:TL)(T:Addr)(pos:Pos)(q:Str):Prop where
 mem:(T,pos,q)∈Ts
 one:∀ e∈Ts,e.1=T→e=(T,pos,q)
def aCA(ps fr:List Str)(sc:Scope):Bool:=decide (sc.kind= .function)&& !sc.isCoroutine&& !sc.isGenerator&&decide ps.Nodup&&sc.names.all (fun y=>decide (y.2≠.cell))&&ps.all (fun x=>decide (sc.names.lookup x=some .local))&&fr.all (fun x=>decide (sc.names.lookup x=some .free))&&sc.names.all (fun y=> !decide (y.2= .free)||decide (y.1∈fr))
theorem o6{ps fr:List Str}{cl:List (Str×Addr)}{sc:Scope}(h:aCA ps fr sc=true)(hc:∀ x∈fr,∃ c,cl.lookup x=some c)(inj:∀ x y c,cl.lookup x=some c→cl.lookup y=some c→x=y):NG ps fr cl sc:=by
 unfold aCA at h;simp only[aFg] at h;obtain⟨⟨⟨⟨⟨⟨⟨h1,h2⟩,h3⟩,h4⟩,h5⟩,h6⟩,h7⟩,h8⟩:=h;refine⟨aFf h1,by simpa using h2,by simpa using h3,aFf h4,fun y hy=>aFf (aFM.mp h5 y hy),fun x hx=>aFf (aFM.mp h6 x hx),fun x hx=>aFf (aFM.mp h7 x hx),fun x hx=>?_,inj⟩;have hm:=PySem.mem_of_lookup hx;have q:=aFM.mp h8 _ hm;simp at q;exact hc x q
theorem jV{x y:Str}{a c:Addr}(h:List.lookup x [(y,a)]=some c):x=y:=by
 rw[aFD] at h;by_cases e:x==y
 ·exact eq_of_beq e
 ·rw[Bool.not_eq_true] at e;rw[e] at h;cases h
theorem dL.lam{CI CR:Addr}{Ts:TL}{H0 H H':Hp}{p:Addr}{v:RV}{SL:List Nat}{fs:List FV}{T f:Addr}{pos:Pos}{q:Str}(G:dL CI CR Ts H0 H p v SL fs)(hT:TabOk Ts T pos q)(b:But T H H')(t:uD (del H' f) T pos q)(hf:H f=none):dL CI CR Ts H0 (del H' f) p v SL fs:=by
 have hTt:=G.tabs _ hT.mem;have hTn:∃ ps,H T=some (.qA ps):=by
  rcases hTt with h | ⟨_,h,_⟩
  ·exact⟨_,h⟩
  ·exact⟨_,h⟩
 obtain⟨ps,hTn⟩:=hTn;have kp:∀ b' o,H b'=some o→b'≠T→del H' f b'=some o:=fun b' o e n=>by
  rw[dU (fun z=>by rw[z,hf] at e;cases e)];exact b _ _ e n
 refine G.qA (fun b' o e n=>kp _ _ e fun z=>?_) fun e he=>?_
 ·rw[z,hTn] at e;exact n _ (aFa e).symm
 ·by_cases c:e.1=T
  ·rw[hT.one e he c];exact t
  ·rcases G.tabs e he with h | ⟨c',h1,h2⟩
   ·exact .inl (kp _ _ h c)
   ·refine .inr ⟨c',kp _ _ h1 c,kp _ _ h2 fun z=>?_⟩;rw[z,hTn] at h2;cases h2
section
variable{P:Program}{w:World}{K:W.Frag}{mg:Str→Option Value}{base:Heap}{CI CR CL:Addr}{Ts:TL}
theorem OV{T0:Addr}(D:NL K mg "shorten" oO ["run","layer"] T0)(TI:lN K CI)(TR:kS K CR)(TL:mW K CL)(hB:FY base mg)(hTs:TabOk Ts T0 (iQ (lC (cX oO))) "shorten.<locals>.<lambda>")(eB:∀ b,Own P w K mg b "change_each" ["run","change"] 5 (fG P w K mg CI CR Ts b))(nM:∀ b,Own P w K mg b "widen" ["short"] 1 lS)(eP:∀ b,Own P w K mg b "narrow" ["x"] 2 iS):Own P w K mg base "shorten" ["run","layer"] 6 (dN CI CR CL Ts (·= .narrow)):=by
 refine D.own OF (fun vs H Q E h=>dP h) (fun fa cd A outer s0 H vs Q Ex hT hr h=>?_)
 ·skip;obtain⟨H0,p,q,v,SL,f,r,hv,Ln,k,s,l,t,s',rfl,hP,L,ha,k2⟩:=h;have G:=L.C;have F:=G.rd TR;have E:=G.qD TI;(refine aI ((L.lay.smt G.base).at_) fun dq u hq u1 u2 u3 u4 bO=>?_;refine aG bO fun u5 u6 cA u9=>?_;refine aA cA fun cols u7 u8=>?_);have Y:=iW hq TL;have hF:=G.fr f (aFh ..);obtain⟨dp,hp⟩:=G.at_;refine aL L.A.top fun a1 a2 a3 a4 a5=>?_;obtain⟨rest,hpre⟩:=L.A.pre;have hlen:=L.A.len;have hfi:=L.A.first;have hwi:=L.A.width;have yX:=L.PJ;have UR:(cF s l).length=(BM.flat l).length+Br.total t.before.aside:=by
   unfold cF;rw[aFb,BM.dI,L.fit.a]
  have hw2:=L.fit.w;have UP:=L.sb.ok.2.1;have hP':t.layer= .narrow:=hP;rw[hP'] at ha;have ha':=(aFa ha).symm;refine⟨_,(bA (dA (oZ eB hr (by decide) (fun _=>rfl) rfl (aY (pv 0) (aY (DD (T:=T0) (q:="shorten.<locals>.<lambda>") rfl hT hB rfl (by kernel_rfl)) a6))))),?_⟩;walk_at"p";refine⟨G.tabs _ hTs.mem,fun H' fn c pm ctv bt tb JM hl hc=>⟨fn,_,hl,fun b hb hcells HC=>?_⟩⟩;have G1:=G.lam hTs bt tb JM;refine⟨H0,p,fn,v,SL,f::r,[(c,"shorten.<locals>.<lambda>")],fun x=>Br.wide (Br.narrowed x),rfl,G1,L.fits.1,L.fits.2,L.A.lt,?_,?_,fun H' G'=>k2 _ _ _ _ G' (L.each (H':=H') ha' fun x hx=>BM.j5 _)⟩
  ·intro e he;rw[aFF.mp he];exact hc
  refine⟨_,_,hb,rfl,Binds.all (len1 fun _=>rfl),?_⟩;refine D0 (k:=3) (fr:=[]) (fv:=[]) hb (o6 (by decide +kernel) (fun x hx=>by cases hx) (fun x y c h=>by cases h)) rfl (fun i x v h=>by cases h) (fun x a h=>by cases h) (fun vs H Q E h=>?_) (fun A outer s H vs Q E hr h=>?_)
  ·(refine aD h fun _ dF=>?_;refine aA dF fun x eX _=>?_;subst eX);rfl
  ·(refine aD h fun hcd hE=>?_;refine aC hE fun x p9 hx kq=>?_;subst p9);refine⟨hcd _ (aFh ..),_,bN (nM b) hr (by decide) rfl (aY (bN (eP b) hr (by decide) rfl (aY (pv 0) a6)) a6),?_⟩;walk_at"0";exact⟨x,rfl,hx,_,rfl,BM.dC hx,kq H (Same.refl H)⟩
theorem V0{T0:Addr}(D:NL K mg "scale" v7 ["run","layer"] T0)(TI:lN K CI)(TR:kS K CR)(TL:mW K CL)(hB:FY base mg)(hTs:TabOk Ts T0 (iQ (lC (cX v7))) "scale.<locals>.<lambda>")(eB:∀ b,Own P w K mg b "change_each" ["run","change"] 5 (fG P w K mg CI CR Ts b))(gQ:∀ b,Own P w K mg b "step" ["s","a","b"] 3 mY)(eP:∀ b,Own P w K mg b "narrow" ["x"] 2 iS):Own P w K mg base "scale" ["run","layer"] 6 (dN CI CR CL Ts (fun c=>∃ n,c= .scale n)):=by
 refine D.own KY (fun vs H Q E h=>dP h) (fun fa cd A outer s0 H vs Q Ex hT hr h=>?_)
 ·skip;obtain⟨H0,p,q,v,SL,f,r,hv,Ln,k,s,l,t,s',rfl,hP,L,ha,k2⟩:=h;have G:=L.C;have F:=G.rd TR;have E:=G.qD TI;(refine aI ((L.lay.smt G.base).at_) fun dq u hq u1 u2 u3 u4 bO=>?_;refine aG bO fun u5 u6 cA u9=>?_;refine aA cA fun cols u7 u8=>?_);have Y:=iW hq TL;have hF:=G.fr f (aFh ..);obtain⟨dp,hp⟩:=G.at_;refine aL L.A.top fun a1 a2 a3 a4 a5=>?_;obtain⟨rest,hpre⟩:=L.A.pre;have hlen:=L.A.len;have hfi:=L.A.first;have hwi:=L.A.width;have yX:=L.PJ;have UR:(cF s l).length=(BM.flat l).length+Br.total t.before.aside:=by
   unfold cF;rw[aFb,BM.dI,L.fit.a]
  have hw2:=L.fit.w;have UP:=L.sb.ok.2.1;obtain⟨n,hP'⟩:=hP;rw[hP'] at ha u6;have ha':=(aFa ha).symm;have hn:n<65536:=by
   have:=L.lok;rw[hP'] at this;exact this
  refine⟨_,(aZ (bK (i:=2) KY.nd rfl (by first | exact Or.inl rfl | exact Or.inr rfl) (cC bZ (bB (pv 1) rfl) a8 (fun _ _=>rfl)))
   (bA (dA (oZ eB hr (by decide) (fun _=>rfl) rfl (aY (pv 0) (aY (DD (T:=T0) (q:="scale.<locals>.<lambda>") rfl hT hB rfl (by kernel_rfl)) a6)))))),?_⟩
  walk_at"m";refine⟨_,cT.of u6,_,cW (i:=0) (by show 0<1;decide) rfl,?_⟩;walk_at"m";rw[show (eW (Br.Layer.scale n)).getD 0 0=n from rfl];refine⟨G.tabs _ hTs.mem,fun H' fn c pm ctv bt tb JM hl hc=>⟨fn,_,hl,fun b hb hcells HC=>?_⟩⟩;have G1:=G.lam hTs bt tb JM;refine⟨H0,p,fn,v,SL,f::r,[(c,"scale.<locals>.<lambda>")],fun x=>Br.step 0 (Br.narrowed x) n,rfl,G1,L.fits.1,L.fits.2,L.A.lt,?_,?_,fun H' G'=>k2 _ _ _ _ G' (L.each (H':=H') ha' fun x hx=>BM.iF (by decide) (BM.dC hx) hn)⟩
  ·intro e he;rw[aFF.mp he];exact hc
  refine⟨_,_,hb,rfl,Binds.all (len1 fun _=>rfl),?_⟩;(refine aA (HC 2 "s" (.int (n:Nat)) rfl rfl rfl) fun ca uc dF=>?_;refine aA dF fun e1 e2 e3=>?_);have eca:some (s0.heap.objs.size+1)=some ca:=uc;have aBH:=aFa eca;subst aBH;refine D0 (k:=3) (ps:=["x"]) (fr:=["s"]) (fv:=[.int (n:Nat)]) hb (o6 (by decide +kernel) (fun x hx=>?_) (fun x y c h h'=>?_)) rfl (fun i x v h h'=>?_) (fun x a h=>?_) (fun vs H Q E h=>?_) (fun A outer s H vs Q E hr h=>?_)
  ·rw[aFF.mp hx];exact⟨_,rfl⟩
  ·rw[jV h,jV h']
  ·match i,h,h' with
   | 0,h,h'=>
    cases h;cases h';exact⟨_,e1,rfl,e2,e3⟩
   | i+1,h,h'=>cases h
  ·have ex:=jV h;subst ex;have ea:some (s0.heap.objs.size+1)=some a:=h;rw[←aFa ea];exact⟨_,e2⟩
  ·(refine aD h fun _ eX=>?_;refine aA eX fun x hE _=>?_;subst hE);rfl
  ·(refine aD h fun hcd p9=>?_;refine aC p9 fun x AS hx kq=>?_;subst AS);refine⟨hcd _ (aFh ..),_,bN (gQ b) hr (by decide) rfl (aY a8 (aY (bN (eP b) hr (by decide) rfl (aY (pv 0) a6)) (aY (pv 1) a6))),?_⟩;walk_at"6";exact⟨x,rfl,hx,0,_,n,rfl,by decide,BM.dC hx,hn,kq⟩
theorem VZ{T0:Addr}(D:NL K mg "shift" v6 ["run","layer"] T0)(TI:lN K CI)(TR:kS K CR)(TL:mW K CL)(hB:FY base mg)(hTs:TabOk Ts T0 (iQ (lC (cX v6))) "shift.<locals>.<lambda>")(eB:∀ b,Own P w K mg b "change_each" ["run","change"] 5 (fG P w K mg CI CR Ts b))(gQ:∀ b,Own P w K mg b "step" ["s","a","b"] 3 mY)(h1:GI mg "ONE" 16256):Own P w K mg base "shift" ["run","layer"] 6 (dN CI CR CL Ts (fun c=>∃ n,c= .shift n)):=by
 refine D.own KW (fun vs H Q E h=>dP h) (fun fa cd A outer s0 H vs Q Ex hT hr h=>?_)
 ·skip;obtain⟨H0,p,q,v,SL,f,r,hv,Ln,k,s,l,t,s',rfl,hP,L,ha,k2⟩:=h;have G:=L.C;have F:=G.rd TR;have E:=G.qD TI;(refine aI ((L.lay.smt G.base).at_) fun dq u hq u1 u2 u3 u4 bO=>?_;refine aG bO fun u5 u6 cA u9=>?_;refine aA cA fun cols u7 u8=>?_);have Y:=iW hq TL;have hF:=G.fr f (aFh ..);obtain⟨dp,hp⟩:=G.at_;refine aL L.A.top fun a1 a2 a3 a4 a5=>?_;obtain⟨rest,hpre⟩:=L.A.pre;have hlen:=L.A.len;have hfi:=L.A.first;have hwi:=L.A.width;have yX:=L.PJ;have UR:(cF s l).length=(BM.flat l).length+Br.total t.before.aside:=by
   unfold cF;rw[aFb,BM.dI,L.fit.a]
  have hw2:=L.fit.w;have UP:=L.sb.ok.2.1;obtain⟨n,hP'⟩:=hP;rw[hP'] at ha u6;have ha':=(aFa ha).symm;have hn:n<65536:=by
   have:=L.lok;rw[hP'] at this;exact this
  refine⟨_,(aZ (bK (i:=2) KW.nd rfl (by first | exact Or.inl rfl | exact Or.inr rfl) (cC bZ (bB (pv 1) rfl) a8 (fun _ _=>rfl)))
   (bA (dA (oZ eB hr (by decide) (fun _=>rfl) rfl (aY (pv 0) (aY (DD (T:=T0) (q:="shift.<locals>.<lambda>") rfl hT hB rfl (by kernel_rfl)) a6)))))),?_⟩
  walk_at"m";refine⟨_,cT.of u6,_,cW (i:=0) (by show 0<1;decide) rfl,?_⟩;walk_at"m";rw[show (eW (Br.Layer.shift n)).getD 0 0=n from rfl];refine⟨G.tabs _ hTs.mem,fun H' fn c pm ctv bt tb JM hl hc=>⟨fn,_,hl,fun b hb hcells HC=>?_⟩⟩;have G1:=G.lam hTs bt tb JM;refine⟨H0,p,fn,v,SL,f::r,[(c,"shift.<locals>.<lambda>")],fun x=>Br.step x n Br.ONE,rfl,G1,L.fits.1,L.fits.2,L.A.lt,?_,?_,fun H' G'=>k2 _ _ _ _ G' (L.each (H':=H') ha' fun x hx=>BM.iF hx hn (by decide))⟩
  ·intro e he;rw[aFF.mp he];exact hc
  refine⟨_,_,hb,rfl,Binds.all (len1 fun _=>rfl),?_⟩;(refine aA (HC 2 "s" (.int (n:Nat)) rfl rfl rfl) fun ca uc dF=>?_;refine aA dF fun e1 e2 e3=>?_);have eca:some (s0.heap.objs.size+1)=some ca:=uc;have aBH:=aFa eca;subst aBH;refine D0 (k:=3) (ps:=["x"]) (fr:=["s"]) (fv:=[.int (n:Nat)]) hb (o6 (by decide +kernel) (fun x hx=>?_) (fun x y c h h'=>?_)) rfl (fun i x v h h'=>?_) (fun x a h=>?_) (fun vs H Q E h=>?_) (fun A outer s H vs Q E hr h=>?_)
  ·rw[aFF.mp hx];exact⟨_,rfl⟩
  ·rw[jV h,jV h']
  ·match i,h,h' with
   | 0,h,h'=>
    cases h;cases h';exact⟨_,e1,rfl,e2,e3⟩
   | i+1,h,h'=>cases h
  ·have ex:=jV h;subst ex;have ea:some (s0.heap.objs.size+1)=some a:=h;rw[←aFa ea];exact⟨_,e2⟩
  ·(refine aD h fun _ eX=>?_;refine aA eX fun x hE _=>?_;subst hE);rfl
  ·(refine aD h fun hcd p9=>?_;refine aC p9 fun x AS hx kq=>?_;subst AS);refine⟨hcd _ (aFh ..),_,bN (gQ b) hr (by decide) rfl (aY (pv 0) (aY (pv 1) (aY (cH rfl h1) a6))),?_⟩;walk_at"6";exact⟨x,n,16256,rfl,hx,hn,by decide,kq⟩
theorem JB{T0:Addr}(D:NL K mg "add_aside" kQ ["run","layer"] T0)(TI:lN K CI)(TR:kS K CR)(TL:mW K CL)(hB:FY base mg)(hTs:TabOk Ts T0 (iQ (lC (cX kQ))) "add_aside.<locals>.<lambda>")(fE:∀ b,Own P w K mg b "change_with_aside" ["run","change"] 5 (eY P w K mg CI CR Ts b))(gQ:∀ b,Own P w K mg b "step" ["s","a","b"] 3 mY)(eP:∀ b,Own P w K mg b "narrow" ["x"] 2 iS)(h1:GI mg "ONE" 16256):Own P w K mg base "add_aside" ["run","layer"] 6 (dN CI CR CL Ts (·= .add)):=by
 refine D.own IJ (fun vs H Q E h=>dP h) (fun fa cd A outer s0 H vs Q Ex hT hr h=>?_)
 ·skip;obtain⟨H0,p,q,v,SL,f,r,hv,Ln,k,s,l,t,s',rfl,hP,L,ha,k2⟩:=h;have G:=L.C;have F:=G.rd TR;have E:=G.qD TI;(refine aI ((L.lay.smt G.base).at_) fun dq u hq u1 u2 u3 u4 bO=>?_;refine aG bO fun u5 u6 cA u9=>?_;refine aA cA fun cols u7 u8=>?_);have Y:=iW hq TL;have hF:=G.fr f (aFh ..);obtain⟨dp,hp⟩:=G.at_;refine aL L.A.top fun a1 a2 a3 a4 a5=>?_;obtain⟨rest,hpre⟩:=L.A.pre;have hlen:=L.A.len;have hfi:=L.A.first;have hwi:=L.A.width;have yX:=L.PJ;have UR:(cF s l).length=(BM.flat l).length+Br.total t.before.aside:=by
   unfold cF;rw[aFb,BM.dI,L.fit.a]
  have hw2:=L.fit.w;have UP:=L.sb.ok.2.1;have hP':t.layer= .add:=hP;rw[hP'] at ha;have hth:=L.there;rw[hP'] at hth;refine aB (BM.BI L.fit hth) fun y as ea hyl hzz=>?_;refine⟨_,(bA (dA (oZ fE hr (by decide) (fun _=>rfl) rfl (aY (pv 0) (aY (DD (T:=T0) (q:="add_aside.<locals>.<lambda>") rfl hT hB rfl (by kernel_rfl)) a6))))),?_⟩;unfold Br.At.after at ha;rw[ea] at ha;have ha':=(aFa ha).symm;rw[ea,List.map_cons] at a4;have JP:=pT (l:=l) ea;rw[JP] at hpre;rw[JP,aFb] at hfi;generalize hX:BM.flat l++as.reverse.flatten=X at hpre hfi JP;have X2:SL=X++(y++(s.row++rest)):=by rw[hpre];simp
  walk_at"p";refine⟨G.tabs _ hTs.mem,fun H' fn c pm ctv bt tb JM hl hc=>⟨fn,_,hl,fun b hb hcells HC=>?_⟩⟩;have G1:=G.lam hTs bt tb JM;refine⟨H0,p,fn,v,SL,f,r,y.length,as.map List.length,[(c,"add_aside.<locals>.<lambda>")],fun x v=>Br.step x (Br.narrowed v) Br.ONE,rfl,G1,a4,by lia,L.fits.1,L.fits.2,L.A.lt,?_,?_,fun H' G'=>k2 _ _ _ _ G' ?_⟩
  ·intro e he;rw[aFF.mp he];exact hc
  ·refine⟨_,_,hb,rfl,Binds.all (len2 fun _ _=>rfl),?_⟩;refine D0 (k:=3) (fr:=[]) (fv:=[]) hb (o6 (by decide +kernel) (fun x hx=>by cases hx) (fun x y c h=>by cases h)) rfl (fun i x v h=>by cases h) (fun x a h=>by cases h) (fun vs H Q E h=>?_) (fun A outer s H vs Q E hr h=>?_)
   ·(refine aD h fun _ dF=>?_;refine aH dF fun x y eX _=>?_;subst eX);rfl
   ·(refine aD h fun hcd hE=>?_;refine aN hE fun x y p9 hx hy kq=>?_;subst p9);refine⟨hcd _ (aFh ..),_,bN (gQ b) hr (by decide) rfl (aY (pv 0) (aY (bN (eP b) hr (by decide) rfl (aY (pv 1) a6)) (aY (cH rfl h1) a6))),?_⟩;walk_at"0";exact⟨y,rfl,hy,x,_,16256,rfl,hx,BM.dC hy,by decide,kq⟩
  ·have hb2:(List.range v.width).map (fun i=>(fun x v=>Br.step x (Br.narrowed v) Br.ONE) (SL.getD (v.first+i) 0) (SL.getD (v.first-y.length+i) 0))=Br.both (fun x v=>Br.step x (Br.narrowed v) Br.ONE) s.row y:=by
    unfold Br.both;rw[hwi];refine aFE fun i hi=>?_;have hi':=List.mem_range.mp hi;have e1:SL.getD (v.first+i) 0=s.row.getD i 0:=by rw[hpre,BM.kR (i:=i) (by rw[aFb];lia),BM.iY hi']
    have e2:SL.getD (v.first-y.length+i) 0=y.getD i 0:=by rw[X2,BM.kR (i:=i) (by lia),BM.iY (by lia)]
    rw[e1,e2]
   have xZ:=BM.xQ (fun x v=>Br.step x (Br.narrowed v) Br.ONE) s.row y;rw[hb2,ha'];have va:=L.fit.va;rw[ea] at va;refine⟨⟨a1,a2,a3,rfl,a5⟩,L.A.rest,?_,?_,⟨rest.take 0++(y++(s.row++rest)).drop s.row.length,?_⟩,?_,?_⟩
   ·show v.first-y.length=(BM.flat l++as.reverse.flatten).length;rw[hX];lia
   ·show v.width=(Br.both (fun x v=>Br.step x (Br.narrowed v) Br.ONE) s.row y).length;rw[xZ];exact hwi
   ·show BM.over SL (v.first-y.length) (Br.both (fun x v=>Br.step x (Br.narrowed v) Br.ONE) s.row y)=(BM.flat l++as.reverse.flatten)++(Br.both (fun x v=>Br.step x (Br.narrowed v) Br.ONE) s.row y++(rest.take 0++(y++(s.row++rest)).drop s.row.length));rw[hX,X2,BM.mF (by lia),xZ,List.take_zero,List.nil_append]
   ·rw[BM.fZ (by rw[xZ];have:=L.fits.1;lia)];exact hlen
   ·refine BM.pN L.A.lt (BM.BN fun i=>?_);exact BM.iF (BM.dB (by decide) L.fit.v i) (BM.dC (BM.dB (by decide) (va y (aFh ..)) i)) (by decide)
theorem wP{T0:Addr}(D:NL K mg "multiply_aside" fH ["run","layer"] T0)(TI:lN K CI)(TR:kS K CR)(TL:mW K CL)(hB:FY base mg)(hTs:TabOk Ts T0 (iQ (lC (cX fH))) "multiply_aside.<locals>.<lambda>")(fE:∀ b,Own P w K mg b "change_with_aside" ["run","change"] 5 (eY P w K mg CI CR Ts b))(gQ:∀ b,Own P w K mg b "step" ["s","a","b"] 3 mY)(eP:∀ b,Own P w K mg b "narrow" ["x"] 2 iS):Own P w K mg base "multiply_aside" ["run","layer"] 6 (dN CI CR CL Ts (·= .times)):=by
 refine D.own vS (fun vs H Q E h=>dP h) (fun fa cd A outer s0 H vs Q Ex hT hr h=>?_)
 ·skip;obtain⟨H0,p,q,v,SL,f,r,hv,Ln,k,s,l,t,s',rfl,hP,L,ha,k2⟩:=h;have G:=L.C;have F:=G.rd TR;have E:=G.qD TI;(refine aI ((L.lay.smt G.base).at_) fun dq u hq u1 u2 u3 u4 bO=>?_;refine aG bO fun u5 u6 cA u9=>?_;refine aA cA fun cols u7 u8=>?_);have Y:=iW hq TL;have hF:=G.fr f (aFh ..);obtain⟨dp,hp⟩:=G.at_;refine aL L.A.top fun a1 a2 a3 a4 a5=>?_;obtain⟨rest,hpre⟩:=L.A.pre;have hlen:=L.A.len;have hfi:=L.A.first;have hwi:=L.A.width;have yX:=L.PJ;have UR:(cF s l).length=(BM.flat l).length+Br.total t.before.aside:=by
   unfold cF;rw[aFb,BM.dI,L.fit.a]
  have hw2:=L.fit.w;have UP:=L.sb.ok.2.1;have hP':t.layer= .times:=hP;rw[hP'] at ha;have hth:=L.there;rw[hP'] at hth;refine aB (BM.BI L.fit hth) fun y as ea hyl hzz=>?_;refine⟨_,(bA (dA (oZ fE hr (by decide) (fun _=>rfl) rfl (aY (pv 0) (aY (DD (T:=T0) (q:="multiply_aside.<locals>.<lambda>") rfl hT hB rfl (by kernel_rfl)) a6))))),?_⟩;unfold Br.At.after at ha;rw[ea] at ha;have ha':=(aFa ha).symm;rw[ea,List.map_cons] at a4;have JP:=pT (l:=l) ea;rw[JP] at hpre;rw[JP,aFb] at hfi;generalize hX:BM.flat l++as.reverse.flatten=X at hpre hfi JP;have X2:SL=X++(y++(s.row++rest)):=by rw[hpre];simp
  walk_at"p";refine⟨G.tabs _ hTs.mem,fun H' fn c pm ctv bt tb JM hl hc=>⟨fn,_,hl,fun b hb hcells HC=>?_⟩⟩;have G1:=G.lam hTs bt tb JM;refine⟨H0,p,fn,v,SL,f,r,y.length,as.map List.length,[(c,"multiply_aside.<locals>.<lambda>")],fun x v=>Br.step 0 (Br.narrowed x) (Br.narrowed v),rfl,G1,a4,by lia,L.fits.1,L.fits.2,L.A.lt,?_,?_,fun H' G'=>k2 _ _ _ _ G' ?_⟩
  ·intro e he;rw[aFF.mp he];exact hc
  ·refine⟨_,_,hb,rfl,Binds.all (len2 fun _ _=>rfl),?_⟩;refine D0 (k:=3) (fr:=[]) (fv:=[]) hb (o6 (by decide +kernel) (fun x hx=>by cases hx) (fun x y c h=>by cases h)) rfl (fun i x v h=>by cases h) (fun x a h=>by cases h) (fun vs H Q E h=>?_) (fun A outer s H vs Q E hr h=>?_)
   ·(refine aD h fun _ dF=>?_;refine aH dF fun x y eX _=>?_;subst eX);rfl
   ·(refine aD h fun hcd hE=>?_;refine aN hE fun x y p9 hx hy kq=>?_;subst p9);refine⟨hcd _ (aFh ..),_,bN (gQ b) hr (by decide) rfl (aY a8 (aY (bN (eP b) hr (by decide) rfl (aY (pv 0) a6)) (aY (bN (eP b) hr (by decide) rfl (aY (pv 1) a6)) a6))),?_⟩;walk_at"0";exact⟨x,rfl,hx,y,rfl,hy,0,_,_,rfl,by decide,BM.dC hx,BM.dC hy,kq⟩
  ·have hb2:(List.range v.width).map (fun i=>(fun x v=>Br.step 0 (Br.narrowed x) (Br.narrowed v)) (SL.getD (v.first+i) 0) (SL.getD (v.first-y.length+i) 0))=Br.both (fun x v=>Br.step 0 (Br.narrowed x) (Br.narrowed v)) s.row y:=by
    unfold Br.both;rw[hwi];refine aFE fun i hi=>?_;have hi':=List.mem_range.mp hi;have e1:SL.getD (v.first+i) 0=s.row.getD i 0:=by rw[hpre,BM.kR (i:=i) (by rw[aFb];lia),BM.iY hi']
    have e2:SL.getD (v.first-y.length+i) 0=y.getD i 0:=by rw[X2,BM.kR (i:=i) (by lia),BM.iY (by lia)]
    rw[e1,e2]
   have xZ:=BM.xQ (fun x v=>Br.step 0 (Br.narrowed x) (Br.narrowed v)) s.row y;rw[hb2,ha'];have va:=L.fit.va;rw[ea] at va;refine⟨⟨a1,a2,a3,rfl,a5⟩,L.A.rest,?_,?_,⟨rest.take 0++(y++(s.row++rest)).drop s.row.length,?_⟩,?_,?_⟩
   ·show v.first-y.length=(BM.flat l++as.reverse.flatten).length;rw[hX];lia
   ·show v.width=(Br.both (fun x v=>Br.step 0 (Br.narrowed x) (Br.narrowed v)) s.row y).length;rw[xZ];exact hwi
   ·show BM.over SL (v.first-y.length) (Br.both (fun x v=>Br.step 0 (Br.narrowed x) (Br.narrowed v)) s.row y)=(BM.flat l++as.reverse.flatten)++(Br.both (fun x v=>Br.step 0 (Br.narrowed x) (Br.narrowed v)) s.row y++(rest.take 0++(y++(s.row++rest)).drop s.row.length));rw[hX,X2,BM.mF (by lia),xZ,List.take_zero,List.nil_append]
   ·rw[BM.fZ (by rw[xZ];have:=L.fits.1;lia)];exact hlen
   ·refine BM.pN L.A.lt (BM.BN fun i=>?_);exact BM.iF (by decide) (BM.dC (BM.dB (by decide) L.fit.v i)) (BM.dC (BM.dB (by decide) (va y (aFh ..)) i))
end
local macro_rules | `(tactic| walk_at"f")=>sm false (PX) (mV++mL++lK++eS++fO++eM)
local macro_rules | `(tactic| walk_at"t")=>sm true (PX) (mV++mL++lK++eS++fO++eM)
abbrev nH:Stmt:=inClass (top 62) 0
theorem uV:bJ ["self","place","net"] ["self","place","net"] (bC nH):=bV (by kernel_rfl)
abbrev rD:Stmt:=inClass (top 63) 0
theorem AT:bJ ["self","place","net","row"] ["self","place","net","row"] (bC rD):=bV (by kernel_rfl)
abbrev GL:Stmt:=inClass (top 63) 1
theorem OJ:bJ ["self"] ["self"] (bC GL):=bV (by kernel_rfl)
abbrev CT:Stmt:=top 66
theorem K1:bJ ["run","layer"] ["run","layer"] (bC CT):=bV (by kernel_rfl)
abbrev QW:Stmt:=top 77
theorem K0:bJ ["run","layer","h"] ["run","layer"] (bC QW):=bV (by kernel_rfl)
structure oE(C CL:Addr)(H:Hp)(hv:List V)(Hs:Br.House):Prop where
 len:hv.length=8
 at_:∀ k N,Br.kept Hs k=some N→∃ q a bl,hv[k]?=some (.ref q)∧kT C CL H q a bl N∧H bl=some (.lst (hv.take k))
 Y8:∀ k,k<8→Br.kept Hs k=none→hv[k]?=some .non
theorem kT.smt{C CL:Addr}{H H':Hp}{p a bl:Addr}{N:Br.Net}(h:kT C CL H p a bl N)(sm:pB H H'):kT C CL H' p a bl N:=by
 (refine aI h fun dx u h0 h1 h2 h3 h4 bO=>?_;refine aF bO fun h5 h6 cA=>?_;refine aA cA fun ys h7 h8=>?_);have nl:∀ {xs:List V},∀ ps,HO.lst xs≠.qA ps:=fun _ z=>by cases z
 exact⟨dx,u,sm _ _ h0 (fun _ z=>by cases z),h1,h2,h3,h4,h5,h6,ys,sm _ _ h7 nl,h8.1,fun i t e=>let ⟨q,q1,q2⟩:=h8.2 i t e;⟨q,q1,q2.smt sm⟩⟩
theorem oE.smt{C CL:Addr}{H H':Hp}{hv:List V}{Hs:Br.House}(h:oE C CL H hv Hs)(sm:pB H H'):oE C CL H' hv Hs:=
 ⟨h.len,fun k N e=>let ⟨q,a,bl,h1,h2,h3⟩:=h.at_ k N e;⟨q,a,bl,h1,h2.smt sm,sm _ _ h3 (fun _ z=>by cases z)⟩,h.Y8⟩
theorem W0{p q:Addr}{H H':Hp}{o:HO}(b:But p H H')(hp:H' p=some o)(hq:H' q=none):H q=none:=by
 cases e:H q with
 | none=>rfl
 | some u=>
  by_cases c:q=p
  ·subst c;rw[hp] at hq;cases hq
  ·rw[b q u e c] at hq;cases hq
inductive jA(CI:Addr)(vs:List V)(H:Hp)(Q:VK)(E:XK):Prop
 | mk (x dx q:Addr) (k:Nat) (_:vs=[.ref x,.int k,.ref q]) (_:H x=some (.ins CI dx [])) (_:∀ H' wd lp,But x H H'→H' x=some (.ins CI dx (FV.fs ⟨x,wd,lp,k,q,0,[],[]⟩))→H wd=none→H lp=none→wd≠x→lp≠x→wd≠lp→H' wd=some (.lst [])→H' lp=some (.lst [])→Q .non H'):jA CI vs H Q E
inductive kP(C CL CI CR:Addr)(vs:List V)(H:Hp)(Q:VK)(E:XK):Prop
 | mk (p dx q ra a bl:Addr) (k:Nat) (N:Br.Net) (row:List Nat) (_:vs=[.ref p,.int k,.ref q,.ref ra]) (_:H p=some (.ins CR dx [])) (_:kT C CL H q a bl N) (_:H ra=some (.lst (nums row))) (_:row.length≤N.need) (_:N.need≤20000) (_:∀ H' S L x P0 wd lp,But p H H'→H' p=some (.ins CR dx (RV.fs ⟨S,L,0,row.length⟩))→H' x=some (.ins CI P0 (FV.fs ⟨x,wd,lp,k,q,0,[],[]⟩))→H' S=some (.lst (nums (row++List.replicate (N.need-row.length) 0)))→H' L=some (.lst [.ref x])→H' wd=some (.lst [])→H' lp=some (.lst [])→(∀ c∈[S,L,x,wd,lp],H c=none)→([p,S,L,x,wd,lp]:List Addr).Nodup→Q .non H'):kP C CL CI CR vs H Q E
inductive yE(CI CR:Addr)(Ts:TL)(vs:List V)(H:Hp)(Q:VK)(E:XK):Prop
 | mk (H0:Hp) (p:Addr) (v:RV) (SL:List Nat) (fs:List FV) (_:vs=[.ref p]) (_:dL CI CR Ts H0 H p v SL fs) (_:v.first+v.width≤SL.length) (_:SL.length≤20000) (_:∀ H' q,Same H H'→H q=none→H' q=some (.lst (nums ((SL.drop v.first).take v.width)))→Q (.ref q) H'):yE CI CR Ts vs H Q E
inductive qN(CI CR:Addr)(Ts:TL)(vs:List V)(H:Hp)(Q:VK)(E:XK):Prop
 | mk (H0:Hp) (p q:Addr) (v:RV) (SL:List Nat) (f:FV) (r:List FV) (_:vs=[.ref p,.ref q]) (_:dL CI CR Ts H0 H p v SL (f::r)) (_:∀ H',dL CI CR Ts H0 H' p v SL r→Q .non H'):qN CI CR Ts vs H Q E
inductive B6(C CL CI CR:Addr)(Ts:TL)(vs:List V)(H:Hp)(Q:VK)(E:XK):Prop
 | mk (H0:Hp) (p q:Addr) (v:RV) (SL:List Nat) (f:FV) (r:List FV) (hv:List V) (Hs:Br.House) (k h m:Nat) (N M:Br.Net) (t:Br.Told) (_:vs=[.ref p,.ref q]) (_:dL CI CR Ts H0 H p v SL (f::r)) (_:oE C CL H0 hv Hs) (_:Br.kept Hs k=some N) (_:hv[k]?=some (.ref f.net)) (_:h<k) (_:Br.kept Hs h=some M) (_:jO CL H0 q t.at_ t.kind t.before t.layer) (_:t.layer= .hook h m) (_:r.length≤8) (_:∀ H' f',dL CI CR Ts H0 H' p v SL (f'::f::r)→f'.place=h→hv[h]?=some (.ref f'.net)→f'.number=0→f'.widths=[]→f'.loops=[]→Q .non H'):B6 C CL CI CR Ts vs H Q E
section
variable{P:Program}{w:World}{K:W.Frag}{mg:Str→Option Value}{base:Heap}{C CI CR CL:Addr}{Ts:TL}
theorem DQ(D:pV K CI "__init__" "Inside.__init__" nH ["self","place","net"])(TI:lN K CI):cV P w K mg base CI "__init__" ["self","place","net"] 1 (jA CI):=by
 refine D.own TI.cl uV (fun vs H Q E h=>?_) (fun f cdv A outer s H vs Q E hr h=>?_)
 ·obtain⟨x,dx,q,k,rfl,_⟩:=h;rfl
 ·obtain⟨x,dx,q,k,rfl,hx,kq⟩:=h;refine⟨_,(aZ (cP (pv 0) (pv 1) rfl)
   (aZ (cP (pv 0) (pv 2) rfl)
   (aZ (cP (pv 0) a8 rfl)
   (aZ (cP (pv 0) (cG a6) rfl)
   (bA (cP (pv 0) (cG a6) rfl)))))),?_⟩
  walk_at"0";refine cO hx TI.cl TI.place (by decide) ?_;refine cO a7 TI.cl TI.net (by show 1<1000;decide) ?_;rw[dD];refine cO a7 TI.cl TI.number (by show 2<1000;decide) ?_;rw[dD];generalize hf3:bG "number" (V.int 0) (bG "net" (V.ref q) (bG "place" (V.int k) []))=f3;refine⟨by decide,fun wd UO=>?_⟩;have XZ:wd≠x:=fun e=>by rw[e,a7] at UO;cases UO
  have wd0:H wd=none:=by rw[bF XZ] at UO;exact UO
  have p1:(upd (upd H x (.ins CI dx f3)) wd (.lst [])) x=some (.ins CI dx f3):=by rw[bF (Ne.symm XZ)];exact a7
  refine cO p1 TI.cl TI.widths (by rw[←hf3];show 3<1000;decide) ?_;refine⟨by decide,fun lp hlp=>?_⟩;have Y9:lp≠x:=fun e=>by rw[e,a7] at hlp;cases hlp
  have nlw:wd≠lp:=fun e=>by rw[←e,bF XZ,a7] at hlp;cases hlp
  have lp0:H lp=none:=by rw[bF Y9,bF (Ne.symm nlw),bF Y9] at hlp;exact hlp
  have p2:(upd (upd (upd (upd H x (.ins CI dx f3)) wd (.lst [])) x (.ins CI dx (bG "widths" (V.ref wd) f3))) lp (.lst [])) x=some (.ins CI dx (bG "widths" (V.ref wd) f3)):=by rw[bF (Ne.symm Y9)];exact a7
  refine cO p2 TI.cl TI.loops (by rw[←hf3];show 4<1000;decide) ?_;refine kq _ wd lp ?_ ?_ wd0 lp0 XZ Y9 nlw ?_ ?_
  ·exact(((dW.trans (.of (a9 UO))).trans dW).trans (.of (a9 hlp))).trans dW
  ·rw[a7,←hf3];rfl
  ·rw[bF XZ,bF nlw,bF XZ];exact a7
  ·rw[bF Y9];exact a7
theorem O5(D:pV K CR "row" "Run.row" GL ["self"])(TR:kS K CR):cV P w K mg base CR "row" ["self"] 1 (yE CI CR Ts):=by
 refine D.own TR.cl OJ (fun vs H Q E h=>?_) (fun f cdv A outer s H vs Q E hr h=>?_)
 ·obtain⟨_,_,_,_,_,rfl,_⟩:=h;rfl
 ·obtain⟨H0,p,v,SL,fs,rfl,G,hb,hl,kq⟩:=h;have F:=G.rd TR;refine⟨_,(bA (bI (jE m9 (bB (pv 0) rfl) (gU (bB (pv 0) rfl)) (gU (bH bX (bB (pv 0) rfl) (bB (pv 0) rfl)))))),?_⟩;walk_at"f";refine⟨_,cT.of G.sl,fun D hD=>?_⟩;rw[EH (o:=v.first) (k:=v.width) rfl (by lia) hb];exact kq _ D (a9 hD) hD a7
theorem LZ(D:Def K mg "come_out" CT ["run","layer"])(TR:kS K CR):Own P w K mg base "come_out" ["run","layer"] 1 (qN CI CR Ts):=by
 refine D.own K1 (fun vs H Q E h=>?_) (fun f cdv A outer s H vs Q E hr h=>?_)
 ·obtain⟨_,_,_,_,_,_,_,rfl,_⟩:=h;rfl
 ·obtain⟨H0,p,q,v,SL,f,r,rfl,G,kq⟩:=h;have F:=G.rd TR;refine⟨_,(bA (dA (rH PySem.F.plainAttrs_list PySem.F.slot_list_pop PySem.F.type_list_pop vC (bB (pv 0) rfl)))),?_⟩;walk_at"f";refine⟨.inl ⟨rfl,_,cT.of G.nl⟩,v.L,_,V.ref f.x,rfl,rfl,G.nl,?_,?_⟩
  ·rw[aFj,aFd,List.length_cons,Nat.add_sub_cancel,List.map_cons,aFr,aFu (by rw[aFj,aFd];exact aFi _),aFj,aFd,Nat.sub_self];rfl
  ·rw[List.map_cons,aFr,List.dropLast_concat];exact kq _ G.pop
theorem V2(D:Def K mg "go_in" QW ["run","layer"])(TR:kS K CR)(TI:lN K CI)(TL:mW K CL)(TW:hU K C)(pC:EV P w K mg base "Inside" CI ["self","place","net"] 1 (jA CI)):Own P w K mg base "go_in" ["run","layer"] 3 (B6 C CL CI CR Ts):=by
 refine D.own K0 (fun vs H Q E h=>?_) (fun f cdv A outer s H vs Q E hr h=>?_)
 ·obtain⟨_,_,_,_,_,_,_,_,_,_,_,_,_,_,_,rfl,_⟩:=h;rfl
 ·obtain⟨H0,p,q,v,SL,f,r,hv,Hs,k,h,m,N,M,t,rfl,G,NA,hk,hfn,hhk,hM,LA,hl,hr8,kq⟩:=h;have F:=G.rd TR;have E:=G.qD TI;(refine aI ((LA.smt G.base).at_) fun dq u hq u1 u2 u3 u4 bO=>?_;refine aF bO fun u5 u6 _=>?_);have Y:=iW hq TL;rw[hl] at u6;refine aJ ((NA.smt G.base).at_ k N hk) fun qn a bl n1 n2 n3=>?_;rw[hfn] at n1;have n1':=(V.ref.inj (aFa n1)).symm;subst n1';refine aN n2 fun dn un hn e1 e2 _=>?_;have Z:=kN hn TW;refine aJ ((NA.smt G.base).at_ h M hM) fun qM aM blM m1 m2 m3=>?_;refine⟨_,(aZ (bK (i:=2) K0.nd rfl (Or.inl rfl) (cC bZ (bB (pv 1) rfl) a8 (fun _ _=>rfl)))
   (bA (dA (o0 PySem.F.plainAttrs_list PySem.F.slot_list_append PySem.F.type_list_append fK (bB (pv 0) rfl) (aY (DC pC hr (by decide) rfl (aY (pv 2) (aY (cC bZ (bB (bB (cC bZ (bB (pv 0) rfl) (fD dZ a8) (fun _ _=>rfl)) rfl) rfl) (pv 2) (fun _ _=>rfl)) a6))) a6))))),?_⟩
  walk_at"8";refine⟨_,cT.of u6,_,cW (i:=0) (by show 0<2;decide) rfl,?_⟩;walk_at"t";rw[show (eW (Br.Layer.hook h m)).getD 0 0=h from rfl];refine⟨.inl ⟨rfl,_,cT.of G.nl⟩,?_⟩;unfold zR;walk_at"8";refine⟨_,cT.of G.nl,_,pF rfl,?_⟩;walk_at"8";rw[Z.below,e2];have hat:(hv.take k)[h]?=some (.ref qM):=by
   rw[aFP hhk];exact m1
  refine⟨bl,rfl,_,cT.of n3,_,at_of (j:=h) rfl hat,fun x dx hx hdx ndx=>?_⟩;have sX:Same H (upd (upd H dx (.own x)) x (.ins CI dx [])):=(a9 hdx).trans (a9 (by rw[bF (Ne.symm ndx)];exact hx));refine⟨x,dx,qM,h,rfl,a7,fun H' wd lp bt hx' wd0 lp0 XZ Y9 nwl UO hlp=>⟨rfl,?_⟩⟩;have sm:Same H H':=Same.made hx hdx fun c o e n=>bt c o e n;have wdH:=sX.free wd0;have lpH:=sX.free lp0;refine⟨_,sm _ _ G.nl,?_,?_⟩
  ·rw[aFj,aFd,List.length_cons,sizeLine_eq];lia
  have G1:=G.push (f:=⟨x,wd,lp,h,qM,0,[],[]⟩) sm ⟨⟨dx,hx'⟩,UO,[],hlp,trivial⟩ hx wdH lpH (Ne.symm XZ) (Ne.symm Y9) nwl;rw[List.map_cons,aFr] at G1;exact kq _ _ G1 rfl m1 rfl rfl rfl
theorem L4(D:pV K CR "__init__" "Run.__init__" rD ["self","place","net","row"])(T:Txt K mg)(TR:kS K CR)(TI:lN K CI)(TW:hU K C)(pC:EV P w K mg base "Inside" CI ["self","place","net"] 1 (jA CI)):cV P w K mg base CR "__init__" ["self","place","net","row"] 3 (kP C CL CI CR):=by
 refine D.own TR.cl AT (fun vs H Q E h=>?_) (fun f cdv A outer s H vs Q E hr h=>?_)
 ·obtain⟨_,_,_,_,_,_,_,_,_,rfl,_⟩:=h;rfl
 ·obtain⟨p,dx,q,ra,a,bl,k,N,row,rfl,hp,NA,hra,hle,hln,kq⟩:=h;(refine aI NA fun dn un hn e1 e2 e3 e4 bO=>?_;refine aF bO fun e5 e6 _=>?_);refine⟨_,(aZ (cP (pv 0) (bH jU (pv 3) (bH OR (cG (aY a8 a6)) (bH eU (bB (pv 2) rfl) (bY bQ (by rfl) T.len PySem.boot_len (aY (pv 3) a6))))) rfl)
   (aZ (cP (pv 0) a8 rfl)
   (aZ (cP (pv 0) (bY bQ (by rfl) T.len PySem.boot_len (aY (pv 3) a6)) rfl)
   (bA (cP (pv 0) (cG (aY (DC pC hr (by decide) rfl (aY (pv 1) (aY (pv 2) a6))) a6)) rfl))))),?_⟩
  walk_at"0";refine⟨by decide,fun z hz=>?_⟩;have s1:=a9 (o:= .lst [V.int 0]) hz;have Z:=kN (s1 _ _ hn) TW;rw[Z.need,e6];walk_at"0";refine⟨_,.inl (cT.of (s1 _ _ hra)),?_⟩;rw[bM];refine⟨_,a7,by lia,by lia,?_,fun z2 hz2=>?_⟩
  ·show 1*_≤sizeLine;rw[sizeLine_eq];lia
  have efl:(List.replicate (((N.need:Nat):Int)-((row.length:Nat):Int)).toNat [V.int 0]).flatten=nums (List.replicate (N.need-row.length) 0):=by
   rw[show (((N.need:Nat):Int)-((row.length:Nat):Int)).toNat=N.need-row.length from by lia];generalize N.need-row.length=n;unfold nums;rw[List.map_replicate];clear hz2 Z
   induction n with
   | zero=>rfl
   | succ n ih=>rw[List.replicate_succ,aFI,ih,List.replicate_succ];rfl
  rw[efl];have s2:=s1.trans (a9 (o:= .lst (List.replicate (((N.need:Nat):Int)-((row.length:Nat):Int)).toNat [V.int 0]).flatten) hz2);rw[efl] at s2;refine⟨_,s2 _ _ hra,_,a7,?_,fun S hS=>?_⟩
  ·rw[bM,bM,aFL,sizeLine_eq];lia
  have eap:nums row++nums (List.replicate (N.need-row.length) 0)=nums (row++List.replicate (N.need-row.length) 0):=by
   unfold nums;rw[aFC]
  rw[eap];have s3:=s2.trans (a9 (o:= .lst (nums (row++List.replicate (N.need-row.length) 0))) hS);have S0:=s2.free hS;have hS3:=a7 (H:=upd (upd H z (.lst [V.int 0])) z2 (.lst (nums (List.replicate (N.need-row.length) 0)))) (a:=S) (o:= .lst (nums (row++List.replicate (N.need-row.length) 0)));generalize upd (upd (upd H z (.lst [V.int 0])) z2 (.lst (nums (List.replicate (N.need-row.length) 0)))) S (.lst (nums (row++List.replicate (N.need-row.length) 0)))=H3 at s3 hS3 ⊢;have nS:S≠p:=fun e=>by rw[e,hp] at S0;cases S0
  have nra:ra≠p:=fun e=>by rw[e,hp] at hra;cases hra
  refine cO (s3 _ _ hp) TR.cl TR.singles (by decide) ?_;refine cO a7 TR.cl TR.first (by show 1<1000;decide) ?_;rw[dD];refine⟨_,.inl (cT.of (by rw[bF nra];exact s3 _ _ hra)),?_⟩;refine cO a7 TR.cl TR.width (by show 2<1000;decide) ?_;rw[dD,bM];generalize hf3:bG "width" (V.int (row.length:Nat)) (bG "first" (V.int 0) (bG "singles" (V.ref S) []))=f3;have b4:But p H (upd H3 p (.ins CR dx f3)):=(But.of s3).trans dW;have UQ:=a7 (H:=H3) (a:=p) (o:= .ins CR dx f3);have hS4:(upd H3 p (.ins CR dx f3)) S=some (.lst (nums (row++List.replicate (N.need-row.length) 0))):=by rw[bF nS];exact hS3
  generalize upd H3 p (.ins CR dx f3)=H4 at b4 UQ hS4 ⊢;unfold zR;walk_at"0";intro x P0 hx hdx ndx;have sX:Same H4 (upd (upd H4 P0 (.own x)) x (.ins CI P0 [])):=(a9 hdx).trans (a9 (by rw[bF (Ne.symm ndx)];exact hx));refine⟨x,P0,q,k,rfl,a7,fun H5 wd lp bt hx5 wd0 lp0 XZ Y9 nwl UO hlp=>⟨rfl,by decide,fun L hL=>?_⟩⟩;have s5:Same H4 H5:=Same.made hx hdx fun c o e n=>bt c o e n;have s6:Same H5 (upd H5 L (.lst [V.ref x])):=a9 hL;refine cO (s6 _ _ (s5 _ _ UQ)) TR.cl TR.nets (by rw[←hf3];show 3<1000;decide) ?_;have fr:∀ c,H4 c=none→H c=none:=fun c hc=>W0 b4 UQ hc;have L5:=s5.free hL;have V6:∀ c,H4 c=none→c≠p:=fun c hc e=>by rw[e,UQ] at hc;cases hc
  have nfS:∀ c,H4 c=none→c≠S:=fun c hc e=>by rw[e,hS4] at hc;cases hc
  have wd4:=sX.free wd0;have lp4:=sX.free lp0;have nLx:L≠x:=fun e=>by rw[e,hx5] at hL;cases hL
  have nLw:L≠wd:=fun e=>by rw[e,UO] at hL;cases hL
  have nLl:L≠lp:=fun e=>by rw[e,hlp] at hL;cases hL
  refine kq _ S L x P0 wd lp ?_ ?_ ?_ ?_ ?_ ?_ ?_ ?_ ?_
  ·exact((b4.trans (.of s5)).trans (.of s6)).trans dW
  ·rw[a7,←hf3];rfl
  ·rw[bF (V6 _ hx)];exact s6 _ _ hx5
  ·rw[bF nS];exact s6 _ _ (s5 _ _ hS4)
  ·rw[bF (V6 _ L5)];exact a7
  ·rw[bF (V6 _ wd4)];exact s6 _ _ UO
  ·rw[bF (V6 _ lp4)];exact s6 _ _ hlp
  ·intro c hc;simp only[aEZ,List.not_mem_nil,or_false] at hc;rcases hc with rfl | rfl | rfl | rfl | rfl
   ·exact S0
   ·exact fr _ L5
   ·exact fr _ hx
   ·exact fr _ wd4
   ·exact fr _ lp4
  ·simp only[aFB,aEZ,List.not_mem_nil,or_false,not_or,not_false_eq_true,List.nodup_nil,and_true];exact⟨⟨Ne.symm nS,Ne.symm (V6 _ L5),Ne.symm (V6 _ hx),Ne.symm (V6 _ wd4),Ne.symm (V6 _ lp4)⟩,⟨Ne.symm (nfS _ L5),Ne.symm (nfS _ hx),Ne.symm (nfS _ wd4),Ne.symm (nfS _ lp4)⟩,⟨nLx,nLw,nLl⟩,⟨Ne.symm XZ,Ne.symm Y9⟩,nwl⟩
end
local macro_rules | `(tactic| walk_at"0")=>sm false ([]) (mL++lK++eS++fO++eM)
local macro_rules | `(tactic| walk_at"9")=>sm false (PX++W5++ZY) (mL++lK++eS++fO++eM)
local macro_rules | `(tactic| walk_at"j")=>sm false (PX++W5) (mL++lK++eS++fO++eM)
local macro_rules | `(tactic| walk_at"u")=>sm false (PX++W5++ZY) (mL++lK++eS++fO++eM)
abbrev CS:Stmt:=top 86
theorem qV:bJ ["run","innermost","layer"] ["run"] (bC CS):=bV (by kernel_rfl)
theorem EM.mono{P:Program}{w:World}{K:W.Frag}{mg:Str→Option Value}{base:Heap}{f:Addr}{ps:List Str}{j k:Nat}{sp:Sp}(O:EM P w K mg base f ps j sp)(h:j≤k):EM P w K mg base f ps k sp:=by
 refine aC O fun fd h1 h2 h3=>?_;exact⟨fd,h1,h2,h3.mono h⟩
def hZ(P:Program)(w:World)(K:W.Frag)(mg:Str→Option Value)(base:Heap)(kvs:List (Int×V))(n:Int)(sp:Sp):Prop:=∃ f,kvs.lookup n=some (.ref f)∧EM P w K mg base f ["run","layer"] 7 sp
structure NF(P:Program)(w:World)(K:W.Frag)(mg:Str→Option Value)(base:Heap)(kvs:List (Int×V))(C CL CI CR:Addr)(Ts:TL):Prop where
 l0:hZ P w K mg base kvs 0 (qN CI CR Ts)
 l1:hZ P w K mg base kvs 1 (dN CI CR CL Ts (fun c=>∃ m wv cs,c= .dense m wv cs))
 l2:hZ P w K mg base kvs 2 (dN CI CR CL Ts (·= .clamp))
 l3:hZ P w K mg base kvs 3 (dN CI CR CL Ts (·= .narrow))
 l4:hZ P w K mg base kvs 4 (dN CI CR CL Ts (·= .aside))
 l5:hZ P w K mg base kvs 5 (dN CI CR CL Ts (·= .add))
 l6:hZ P w K mg base kvs 6 (dN CI CR CL Ts (·= .times))
 l7:hZ P w K mg base kvs 7 (dN CI CR CL Ts (fun c=>∃ n,c= .scale n))
 l8:hZ P w K mg base kvs 8 (dN CI CR CL Ts (fun c=>∃ n,c= .shift n))
 l9:hZ P w K mg base kvs 9 (B6 C CL CI CR Ts)
 l10:hZ P w K mg base kvs 10 (dN CI CR CL Ts (fun c=>∃ f m,c= .slice f m))
 l11:hZ P w K mg base kvs 11 (dN CI CR CL Ts (·= .swap))
 l12:hZ P w K mg base kvs 12 (dN CI CR CL Ts (·= .join))
 l13:hZ P w K mg base kvs 13 (dN CI CR CL Ts (·= .greatest))
 l14:hZ P w K mg base kvs 14 (dN CI CR CL Ts (fun c=>∃ n,c= .loop n))
 l15:hZ P w K mg base kvs 15 (dN CI CR CL Ts (·= .back))
theorem BJ{hv:List V}:∀ {fs:List FV} {l:List Br.Frame},aBX hv fs l→fs.length=l.length
 | [],[],_=>rfl
 | f::fs,e::l,⟨_,h⟩=>by rw[List.length_cons,List.length_cons,BJ h]
 | [],_::_,h=>h.elim
 | _::_,[],h=>h.elim
def xT(CI CR:Addr)(Ts:TL)(hv:List V)(Hs:Br.House)(Ln:Nat)(H0 H:Hp)(p:Addr):Br.Stand→Prop
 | .works []=>False
 | .works ((k,N,s)::l)=>BM.fS Hs Ln ((k,N,s)::l)∧BM.aDk ((k,N,s)::l)∧∃ v SL f r,dL CI CR Ts H0 H p v SL (f::r)∧XR hv Ln v SL f r k s l s.pc
 | .out y=>∃ v SL rest,dL CI CR Ts H0 H p v SL []∧v.first=0∧v.width=y.length∧SL=y++rest∧SL.length=Ln
inductive m8(C CL CI CR:Addr)(Ts:TL)(vs:List V)(H:Hp)(Q:VK)(E:XK):Prop
 | mk (H0:Hp) (p:Addr) (hv:List V) (Hs:Br.House) (Ln:Nat) (frs:List Br.Frame) (_:vs=[.ref p]) (_:BM.nO Hs) (_:oE C CL H0 hv Hs) (_:Ln≤20000) (_:xT CI CR Ts hv Hs Ln H0 H p (.works frs)) (_:∀ H',xT CI CR Ts hv Hs Ln H0 H' p (Br.turn Hs (.works frs))→Q .non H'):m8 C CL CI CR Ts vs H Q E
section
variable{P:Program}{w:World}{K:W.Frag}{mg:Str→Option Value}{base:Heap}{C CI CR CL:Addr}{Ts:TL}
theorem LY{cl:Addr}{kvs:List (Int×V)}(D:Def K mg "do_layer" CS ["run"])(TR:kS K CR)(TI:lN K CI)(TL:mW K CL)(TW:hU K C)(XT:mg "LAYERS"=some (.ref cl))(KL:KDI K cl kvs)(LO:NF P w K mg base kvs C CL CI CR Ts):Own P w K mg base "do_layer" ["run"] 8 (m8 C CL CI CR Ts):=by
 refine D.own qV (fun vs H Q E h=>?_) (fun fa cdv A0 outer s0 H vs Q Ex hr h=>?_)
 ·obtain⟨_,_,_,_,_,_,rfl,_⟩:=h;rfl
 ·obtain⟨H0,p,hv,Hs,Ln,frs,rfl,hH,NA,X3,hS,kq⟩:=h;refine⟨_,(aZ (bK (i:=1) qV.nd rfl (Or.inl rfl) (cC bZ (bB (pv 0) rfl) (fD dZ a8) (fun _ _=>rfl)))
   (aZ (bK (i:=2) qV.nd rfl (Or.inl rfl) (cC bZ (bB (bB (pv 1) rfl) rfl) (bB (pv 1) rfl) (fun _ _=>rfl)))
   (aZ (iV (pv 1) a8 xC)
   (bA (dA (LM (j:=7) (Q3 (GS rfl XT) (bB (pv 2) rfl) (fun _ _=>rfl)) hr (by decide) (aY (pv 0) (aY (pv 2) a6)))))))),?_⟩
  match frs,hS,kq with
  | [],hS,_=>exact hS.elim
  | (k,N,s)::l,hS,kq=>
  (refine aF hS fun Fk dec bO=>?_;refine aE bO fun v SL f cA=>?_;refine aA cA fun r G A=>?_);have Fk0:=Fk;(refine aL Fk0 fun hk dF hn _ _=>?_;obtain⟨t,O⟩:=dF);have hn':(BM.flat l).length+N.need≤Ln:=hn;have hk:Br.kept Hs k=some N:=hk;have O:BM.NH N t s:=O;refine aL A.top fun a1 a2 a3 a4 a5=>?_;obtain⟨bj,hbj⟩:=hH k N hk;have tm:t∈N.layers:=aFO O.at_;have ek:=BM.MI hbj t tm;have sb:=BM.D4 hbj t tm;refine aG (BM.fU hH hk) fun _ _ _ LK=>?_;have hheld:=BM.RQ O.at_;have hll:s.loops.length≤8:=by
   have h1:=BM.GX O.loops;have h2:=sb.lb.len;lia
  refine aJ (NA.at_ k N hk) fun qn na nbl n1 n2 n3=>?_;rw[a2] at n1;have n1':=(V.ref.inj (aFa n1)).symm;subst n1';have n2':=n2;(refine aI n2' fun dn0 un0 hn0 _ _ _ _ eX=>?_;refine aF eX fun _ _ hE=>?_;refine aA hE fun ys0 aEf aEy=>?_);refine aA (aEy.2 _ _ O.at_) fun qa hqa LA0=>?_;have hnH:=G.base _ _ hn0 (fun _ z=>by cases z);have aEe:=G.base _ _ aEf (fun _ z=>by cases z);have Z:=kN hnH TW;have F:=G.rd TR;have E:=G.qD TI;obtain⟨dx,hx⟩:=(G.fr f (aFh ..)).at_;walk_at"j";refine⟨_,cT.of G.nl,_,pF rfl,?_⟩;walk_at"j";rw[Z.layers];walk_at"j";refine⟨_,cT.of aEe,V.ref qa,at_of (j:=s.pc) (by rw[a3]) hqa,?_⟩;refine⟨CI,dx,f.fs,hx,TI.cl,TI.number,_,f.MF,_,rfl,dx,f.fs,hx,by show 5<1000;decide,?_⟩;rw[a3,show ((s.pc:Nat):Int)+1=((s.pc+1:Nat):Int) from by lia,f.LQ];have G1:=G.setTop (dx:=dx) (s.pc+1);refine aN ((LA0.smt G1.base).at_) fun dq u hq u1 u2 _=>?_;have Y:=iW hq TL;have F:=G1.rd TR;have E:=G1.qD TI;have mk:t.layer≠.out→LCtx CI CR CL Ts H0 (upd H f.x (.ins CI dx (FV.fs {f with number:=s.pc+1}))) p qa v SL {f with number:=s.pc+1} r hv Ln k s l t:=fun hno=>by
   have Lk:=LK _ _ O.at_ hno;exact⟨G1,⟨⟨a1,a2,rfl,a4,a5⟩,A.rest,A.first,A.width,A.pre,A.len,A.lt⟩,LA0,O.fit,by lia,Lk.wide,Lk.there,Lk.stray,Lk.lay,X3,sb,hll⟩
  walk_at"u";rw[u2]
  cases et:t.layer with
  | out=>
   have vH:t.kind=0:=by rw[ek,et];rfl
   refine aA LO.l0 fun mK lk ow=>?_;refine aF (BM.U8 hH Fk O et) fun o1 o2 o3=>?_;refine⟨kvs,KL,V.ref mK,by rw[vH];exact lk,mK,rfl,_,_,ow,?_⟩;refine⟨H0,p,qa,v,SL,_,r,rfl,G1,fun H' G'=>kq H' ?_⟩;rw[o2];have JP:cF s l=BM.flat l:=by
    unfold cF;rw[o1];simp
   have hfi:=A.first;have hwi:=A.width;obtain⟨rest,hpre⟩:=A.pre;rw[JP] at hfi hpre
   cases l with
   | nil=>
    have hr0:r=[]:=by
     cases r with
     | nil=>rfl
     | cons _ _=>exact A.rest.elim
    subst hr0;have JM:BM.flat []=([]:List Nat):=rfl;rw[JM] at hfi hpre;exact⟨v,SL,rest,G',hfi,hwi,hpre,A.len⟩
   | cons g l2=>
    obtain⟨j,M,s2⟩:=g
    cases r with
    | nil=>exact A.rest.elim
    | cons f2 r2=>
     obtain⟨⟨b1,b2,b3,b4,b5⟩,hrest⟩:=A.rest;refine⟨o3.1,dec.2,v,SL,f2,r2,G',⟨b1,b2,b3,b4,b5⟩,hrest,?_,hwi,⟨rest,?_⟩,A.len,A.lt⟩
     ·rw[hfi];rfl
     ·rw[hpre];rfl
  | dense m wv cs=>
   have vH:t.kind=1:=by rw[ek,et];rfl
   refine aA LO.l1 fun mK lk ow=>?_;refine aO (BM.eG hH Fk O (by rw[et];rfl)) fun s' haf _ _ htn xF=>?_;have LC:=mk (by rw[et];exact fun z=>by cases z);refine⟨kvs,KL,V.ref mK,by rw[vH];exact lk,mK,rfl,_,_,ow,?_⟩;exact⟨H0,p,qa,v,SL,_,r,hv,Ln,k,s,l,t,_,rfl,⟨m,wv,cs,et⟩,LC,haf,fun H' v' iB f' G' A'=>kq H' (by rw[htn];exact⟨xF,dec,v',iB,f',r,G',A'⟩)⟩
  | clamp=>
   have vH:t.kind=2:=by rw[ek,et];rfl
   refine aA LO.l2 fun mK lk ow=>?_;refine aO (BM.eG hH Fk O (by rw[et];rfl)) fun s' haf _ _ htn xF=>?_;have LC:=mk (by rw[et];exact fun z=>by cases z);refine⟨kvs,KL,V.ref mK,by rw[vH];exact lk,mK,rfl,_,_,ow,?_⟩;exact⟨H0,p,qa,v,SL,_,r,hv,Ln,k,s,l,t,_,rfl,et,LC,haf,fun H' v' iB f' G' A'=>kq H' (by rw[htn];exact⟨xF,dec,v',iB,f',r,G',A'⟩)⟩
  | narrow=>
   have vH:t.kind=3:=by rw[ek,et];rfl
   refine aA LO.l3 fun mK lk ow=>?_;refine aO (BM.eG hH Fk O (by rw[et];rfl)) fun s' haf _ _ htn xF=>?_;have LC:=mk (by rw[et];exact fun z=>by cases z);refine⟨kvs,KL,V.ref mK,by rw[vH];exact lk,mK,rfl,_,_,ow,?_⟩;exact⟨H0,p,qa,v,SL,_,r,hv,Ln,k,s,l,t,_,rfl,et,LC,haf,fun H' v' iB f' G' A'=>kq H' (by rw[htn];exact⟨xF,dec,v',iB,f',r,G',A'⟩)⟩
  | aside=>
   have vH:t.kind=4:=by rw[ek,et];rfl
   refine aA LO.l4 fun mK lk ow=>?_;refine aO (BM.eG hH Fk O (by rw[et];rfl)) fun s' haf _ _ htn xF=>?_;have LC:=mk (by rw[et];exact fun z=>by cases z);refine⟨kvs,KL,V.ref mK,by rw[vH];exact lk,mK,rfl,_,_,ow,?_⟩;exact⟨H0,p,qa,v,SL,_,r,hv,Ln,k,s,l,t,_,rfl,et,LC,haf,fun H' v' iB f' G' A'=>kq H' (by rw[htn];exact⟨xF,dec,v',iB,f',r,G',A'⟩)⟩
  | add=>
   have vH:t.kind=5:=by rw[ek,et];rfl
   refine aA LO.l5 fun mK lk ow=>?_;refine aO (BM.eG hH Fk O (by rw[et];rfl)) fun s' haf _ _ htn xF=>?_;have LC:=mk (by rw[et];exact fun z=>by cases z);refine⟨kvs,KL,V.ref mK,by rw[vH];exact lk,mK,rfl,_,_,ow,?_⟩;exact⟨H0,p,qa,v,SL,_,r,hv,Ln,k,s,l,t,_,rfl,et,LC,haf,fun H' v' iB f' G' A'=>kq H' (by rw[htn];exact⟨xF,dec,v',iB,f',r,G',A'⟩)⟩
  | times=>
   have vH:t.kind=6:=by rw[ek,et];rfl
   refine aA LO.l6 fun mK lk ow=>?_;refine aO (BM.eG hH Fk O (by rw[et];rfl)) fun s' haf _ _ htn xF=>?_;have LC:=mk (by rw[et];exact fun z=>by cases z);refine⟨kvs,KL,V.ref mK,by rw[vH];exact lk,mK,rfl,_,_,ow,?_⟩;exact⟨H0,p,qa,v,SL,_,r,hv,Ln,k,s,l,t,_,rfl,et,LC,haf,fun H' v' iB f' G' A'=>kq H' (by rw[htn];exact⟨xF,dec,v',iB,f',r,G',A'⟩)⟩
  | scale n=>
   have vH:t.kind=7:=by rw[ek,et];rfl
   refine aA LO.l7 fun mK lk ow=>?_;refine aO (BM.eG hH Fk O (by rw[et];rfl)) fun s' haf _ _ htn xF=>?_;have LC:=mk (by rw[et];exact fun z=>by cases z);refine⟨kvs,KL,V.ref mK,by rw[vH];exact lk,mK,rfl,_,_,ow,?_⟩;exact⟨H0,p,qa,v,SL,_,r,hv,Ln,k,s,l,t,_,rfl,⟨n,et⟩,LC,haf,fun H' v' iB f' G' A'=>kq H' (by rw[htn];exact⟨xF,dec,v',iB,f',r,G',A'⟩)⟩
  | shift n=>
   have vH:t.kind=8:=by rw[ek,et];rfl
   refine aA LO.l8 fun mK lk ow=>?_;refine aO (BM.eG hH Fk O (by rw[et];rfl)) fun s' haf _ _ htn xF=>?_;have LC:=mk (by rw[et];exact fun z=>by cases z);refine⟨kvs,KL,V.ref mK,by rw[vH];exact lk,mK,rfl,_,_,ow,?_⟩;exact⟨H0,p,qa,v,SL,_,r,hv,Ln,k,s,l,t,_,rfl,⟨n,et⟩,LC,haf,fun H' v' iB f' G' A'=>kq H' (by rw[htn];exact⟨xF,dec,v',iB,f',r,G',A'⟩)⟩
  | hook h m=>
   have vH:t.kind=9:=by rw[ek,et];rfl
   refine aA LO.l9 fun mK lk ow=>?_;refine aR (BM.SS hH Fk O et) fun M hlt hM htn xF=>?_;refine⟨kvs,KL,V.ref mK,by rw[vH];exact lk,mK,rfl,_,_,ow,?_⟩;refine⟨H0,p,qa,v,SL,_,r,hv,Hs,k,h,m,N,M,t,rfl,G1,NA,hk,a2,hlt,hM,LA0,et,?_,fun H' f' G' g1 g2 g3 g4 g5=>kq H' ?_⟩
   ·have:=BJ A.rest;have:=dec.1;lia
   rw[htn];have JP:cF (Br.started s.row) ((k,N,s)::l)=cF s l:=by
    unfold cF Br.started;show (BM.flat l++s.aside.reverse.flatten)++_=_;simp
   refine⟨xF,⟨?_,dec⟩,v,SL,f',_,G',⟨g1,g2,g3,g4,g5⟩,⟨⟨a1,a2,rfl,a4,a5⟩,A.rest⟩,?_,A.width,?_,A.len,A.lt⟩
   ·show l.length+1+h≤7;have:=dec.1;lia
   ·rw[JP];exact A.first
   ·rw[JP];exact A.pre
  | slice f0 m=>
   have vH:t.kind=10:=by rw[ek,et];rfl
   refine aA LO.l10 fun mK lk ow=>?_;refine aO (BM.eG hH Fk O (by rw[et];rfl)) fun s' haf _ _ htn xF=>?_;have LC:=mk (by rw[et];exact fun z=>by cases z);refine⟨kvs,KL,V.ref mK,by rw[vH];exact lk,mK,rfl,_,_,ow,?_⟩;exact⟨H0,p,qa,v,SL,_,r,hv,Ln,k,s,l,t,_,rfl,⟨f0,m,et⟩,LC,haf,fun H' v' iB f' G' A'=>kq H' (by rw[htn];exact⟨xF,dec,v',iB,f',r,G',A'⟩)⟩
  | swap=>
   have vH:t.kind=11:=by rw[ek,et];rfl
   refine aA LO.l11 fun mK lk ow=>?_;refine aO (BM.eG hH Fk O (by rw[et];rfl)) fun s' haf _ _ htn xF=>?_;have LC:=mk (by rw[et];exact fun z=>by cases z);refine⟨kvs,KL,V.ref mK,by rw[vH];exact lk,mK,rfl,_,_,ow,?_⟩;exact⟨H0,p,qa,v,SL,_,r,hv,Ln,k,s,l,t,_,rfl,et,LC,haf,fun H' v' iB f' G' A'=>kq H' (by rw[htn];exact⟨xF,dec,v',iB,f',r,G',A'⟩)⟩
  | join=>
   have vH:t.kind=12:=by rw[ek,et];rfl
   refine aA LO.l12 fun mK lk ow=>?_;refine aO (BM.eG hH Fk O (by rw[et];rfl)) fun s' haf _ _ htn xF=>?_;have LC:=mk (by rw[et];exact fun z=>by cases z);refine⟨kvs,KL,V.ref mK,by rw[vH];exact lk,mK,rfl,_,_,ow,?_⟩;exact⟨H0,p,qa,v,SL,_,r,hv,Ln,k,s,l,t,_,rfl,et,LC,haf,fun H' v' iB f' G' A'=>kq H' (by rw[htn];exact⟨xF,dec,v',iB,f',r,G',A'⟩)⟩
  | greatest=>
   have vH:t.kind=13:=by rw[ek,et];rfl
   refine aA LO.l13 fun mK lk ow=>?_;refine aO (BM.eG hH Fk O (by rw[et];rfl)) fun s' haf _ _ htn xF=>?_;have LC:=mk (by rw[et];exact fun z=>by cases z);refine⟨kvs,KL,V.ref mK,by rw[vH];exact lk,mK,rfl,_,_,ow,?_⟩;exact⟨H0,p,qa,v,SL,_,r,hv,Ln,k,s,l,t,_,rfl,et,LC,haf,fun H' v' iB f' G' A'=>kq H' (by rw[htn];exact⟨xF,dec,v',iB,f',r,G',A'⟩)⟩
  | loop n=>
   have vH:t.kind=14:=by rw[ek,et];rfl
   refine aA LO.l14 fun mK lk ow=>?_;refine aF (BM.SR hH Fk O et) fun _ htn xF=>?_;have haf:s.after t.layer=some {s with pc:=s.pc+1,loops:=(s.pc,n)::s.loops}:=by rw[et];rfl
   have LC:=mk (by rw[et];exact fun z=>by cases z);refine⟨kvs,KL,V.ref mK,by rw[vH];exact lk,mK,rfl,_,_,ow,?_⟩;exact⟨H0,p,qa,v,SL,_,r,hv,Ln,k,s,l,t,_,rfl,⟨n,et⟩,LC,haf,fun H' v' iB f' G' A'=>kq H' (by rw[htn];exact⟨xF,dec,v',iB,f',r,G',A'⟩)⟩
  | back=>
   have vH:t.kind=15:=by rw[ek,et];rfl
   refine aA LO.l15 fun mK lk ow=>?_;refine aQ (BM.ST hH Fk O et) fun j n es el _ htn xF=>?_;have haf:s.after t.layer=some (if n≤1 then {s with pc:=s.pc+1,loops:=es} else {s with pc:=j+1,loops:=(j,n-1)::es}):=by
    rw[et];unfold Br.At.after;rw[el];dsimp only
    split <;> rfl
   have LC:=mk (by rw[et];exact fun z=>by cases z);refine⟨kvs,KL,V.ref mK,by rw[vH];exact lk,mK,rfl,_,_,ow,?_⟩;exact⟨H0,p,qa,v,SL,_,r,hv,Ln,k,s,l,t,_,rfl,et,LC,haf,fun H' v' iB f' G' A'=>kq H' (by rw[htn];exact⟨xF,dec,v',iB,f',r,G',A'⟩)⟩
end
local macro_rules | `(tactic| walk_at"0")=>sm false ([]) (mV++mL++lK++eS++fO++eM)
local macro_rules | `(tactic| walk_at"9")=>sm false (PX++W5++ZY) (mV++mL++lK++eS++fO++eM)
local macro_rules | `(tactic| walk_at"j")=>sm false (PX++W5) (mV++lK++eS++fO++eM)
local macro_rules | `(tactic| walk_at"f")=>sm false (PX) (mV++lK++eS++fO++eM)
local macro_rules | `(tactic| walk_at"q")=>sm false ([]) (mV++lK++eS++fO++eM)
abbrev v8:Stmt:=top 64
theorem tQ:bJ ["place","net","row","run"] ["place","net","row"] (bC v8):=bV (by kernel_rfl)
abbrev GB:Stmt:=top 65
theorem lV:bJ ["place","net","row","n","run","done","innermost"] ["place","net","row","n"] (bC GB):=bV (by kernel_rfl)
def uG(H:Hp)(q:Addr):Prop:=∀ o,H q=some o→∃ ps,o= .qA ps
theorem rX{H H':Hp}{q:Addr}(sm:pB H H')(h:H' q=none):uG H q:=fun o e=>by
 refine aFA fun z=>?_;have:=sm q o e fun ps h=>z ⟨ps,h⟩;rw[h] at this;cases this
theorem uG.ne{H:Hp}{q b:Addr}{o:HO}(h:uG H q)(e:H b=some o)(n:∀ ps,o≠.qA ps):b≠q:=fun z=>by
 obtain⟨ps,hp⟩:=h o (by rw[←z];exact e);exact n ps hp
structure UJ(C CL:Addr)(Ts:TL)(H:Hp)(hv:List V)(Hs:Br.House)(k:Nat)(N:Br.Net)(q ra:Addr)(x:List Nat):Prop where
 ok:BM.nO Hs
 nets:oE C CL H hv Hs
 kept:Br.kept Hs k=some N
 at_:hv[k]?=some (.ref q)
 k7:k≤7
 row:H ra=some (.lst (nums x))
 len:x.length=N.width
 lt:∀ v∈x,v<4294967296
 tabs:mQ Ts H
def iG(k:Nat)(N:Br.Net)(x:List Nat):Br.Stand:= .works [(k,N,Br.started x)]
inductive j7(C CL:Addr)(Ts:TL)(vs:List V)(H:Hp)(Q:VK)(E:XK):Prop
 | mk (hv:List V) (Hs:Br.House) (k:Nat) (N:Br.Net) (q ra:Addr) (x:List Nat) (_:vs=[.int k,.ref q,.ref ra]) (_:UJ C CL Ts H hv Hs k N q ra x) (_:∀ H' r,pB H H'→mQ Ts H'→uG H r→H' r=some (.lst (nums (Br.through Hs k N x)))→(Br.through Hs k N x).length=N.widthOut→Q (.ref r) H'):j7 C CL Ts vs H Q E
inductive uO(C CL:Addr)(Ts:TL)(vs:List V)(H:Hp)(Q:VK)(E:XK):Prop
 | mk (hv:List V) (Hs:Br.House) (k n:Nat) (N:Br.Net) (q ra:Addr) (x:List Nat) (_:vs=[.int k,.ref q,.ref ra,.int n]) (_:UJ C CL Ts H hv Hs k N q ra x) (_:∀ H' r,pB H H'→mQ Ts H'→uG H r→H' r=some (.lst (nums (Brain.standing (Br.turns Hs n (iG k N x))).nums))→(Brain.standing (Br.turns Hs n (iG k N x))).nums.length≤20003→Q (.ref r) H'):uO C CL Ts vs H Q E
theorem CW{CI CR:Addr}{Ts:TL}{hv:List V}{Hs:Br.House}{Ln:Nat}{H0 H:Hp}{p:Addr}{st:Br.Stand}(h:xT CI CR Ts hv Hs Ln H0 H p st):∃ v SL fs,dL CI CR Ts H0 H p v SL fs∧((∃ y,st= .out y∧fs=[])∨∃ k N s l,st= .works ((k,N,s)::l)∧fs.length=l.length+1):=by
 match st,h with
 | .works ((k,N,s)::l),⟨_,_,v,SL,f,r,G,A⟩=>exact⟨v,SL,f::r,G,.inr ⟨k,N,s,l,rfl,by rw[List.length_cons,BJ A.rest]⟩⟩
 | .out y,⟨v,SL,rest,G,_⟩=>exact⟨v,SL,[],G,.inl ⟨y,rfl,rfl⟩⟩
theorem xT.same{CI CR:Addr}{Ts:TL}{hv:List V}{Hs:Br.House}{Ln:Nat}{H0 H H':Hp}{p:Addr}{st:Br.Stand}(h:xT CI CR Ts hv Hs Ln H0 H p st)(sm:Same H H'):xT CI CR Ts hv Hs Ln H0 H' p st:=by
 match st,h with
 | .works ((k,N,s)::l),⟨h1,h2,v,SL,f,r,G,A⟩=>exact⟨h1,h2,v,SL,f,r,G.same sm,A⟩
 | .out y,⟨v,SL,rest,G,h⟩=>exact⟨v,SL,rest,G.same sm,h⟩
theorem BV(H:Br.House)(n:Nat)(st:Br.Stand):Br.turns H (n+1) st=Br.turn H (Br.turns H n st):=by
 rw[BM.eV,BM.jQ]
theorem UJ.good{C CL:Addr}{Ts:TL}{H:Hp}{hv:List V}{Hs:Br.House}{k:Nat}{N:Br.Net}{q ra:Addr}{x:List Nat}(I:UJ C CL Ts H hv Hs k N q ra x):N.work≤4096∧∃ y,Br.turns Hs N.work (iG k N x)= .out y∧Br.through Hs k N x=y∧y.length=N.widthOut:=by
 obtain⟨b,hb⟩:=I.ok k N I.kept;have hw:=BM.D5 hb;refine aC (BM.PU I.ok k N I.kept x [] I.len I.lt) fun y h1 h2 _=>?_;exact⟨hw,y,h1,BM.NX hw h1,h2⟩
section
variable{P:Program}{w:World}{K:W.Frag}{mg:Str→Option Value}{base:Heap}{C CI CR CL:Addr}{Ts:TL}
theorem K7{H:Hp}{hv:List V}{Hs:Br.House}{k:Nat}{N:Br.Net}{q ra:Addr}{x:List Nat}{Q:Addr→Hp→Prop}(I:UJ C CL Ts H hv Hs k N q ra x)(kq:∀ H' p,xT CI CR Ts hv Hs N.need H H' p (iG k N x)→Q p H'):
  ∀ p dx,H p=none→H dx=none→dx≠p→kP C CL CI CR [V.ref p,V.int (k:Nat),V.ref q,V.ref ra] (upd (upd H dx (.own p)) p (.ins CR dx [])) (fun v H2=>v= .non∧Q p H2) E0:=by
 intro p dx hp hdx ndx;have sX:Same H (upd (upd H dx (.own p)) p (.ins CR dx [])):=(a9 hdx).trans (a9 (by rw[bF (Ne.symm ndx)];exact hp));refine aJ (I.nets.at_ k N I.kept) fun q' a bl h1 h2 h3=>?_;rw[I.at_] at h1;have h1':=(V.ref.inj (aFa h1)).symm;subst h1';have hnb:=BM.vA I.ok k N I.kept;have hk7:=I.k7;have hwn:=BM.UV N;have hxl:=I.len;have hm:1024*(k+1)≤1024*8:=Nat.mul_le_mul_left _ (by lia);refine⟨p,dx,q',ra,a,bl,k,N,x,rfl,a7,h2.smt (.of sX),sX _ _ I.row,by lia,by lia,fun H' S L xi P0 wd lp bt hp' hx' hS' hL' UO hlp hfr hnd=>⟨rfl,kq H' p ?_⟩⟩;have sm:Same H H':=Same.made hp hdx fun c o e n=>bt c o e n;refine⟨BM.ID I.ok I.kept I.len I.lt,⟨by show 0+k≤7;lia,trivial⟩,⟨S,L,0,x.length⟩,x++List.replicate (N.need-x.length) 0,⟨xi,wd,lp,k,q',0,[],[]⟩,[],⟨.of sm,I.tabs.same sm,⟨dx,hp'⟩,hS',hL',fun f hf=>?_,hnd,fun c hc o e=>?_⟩,⟨⟨rfl,I.at_,rfl,rfl,rfl⟩,trivial,rfl,rfl,⟨List.replicate (N.need-x.length) 0,rfl⟩,?_,fun y hy=>?_⟩⟩
 ·rw[aFF.mp hf];exact⟨⟨P0,hx'⟩,UO,[],hlp,trivial⟩
 ·have hc':c∈[p,S,L,xi,wd,lp]:=hc;rcases aEZ.mp hc' with rfl | hc'
  ·rw[hp] at e;cases e
  ·rw[sX.free (hfr c hc')] at e;cases e
 ·rw[aFb,aFL];lia
 ·rcases List.mem_append.mp hy with hy | hy
  ·exact I.lt y hy
  ·rw[List.eq_of_mem_replicate hy];decide
theorem QY{H0 H:Hp}{hv:List V}{Hs:Br.House}{Ln:Nat}{p:Addr}{y:List Nat}{Q:VK}(h:xT CI CR Ts hv Hs Ln H0 H p (.out y))(X3:Ln≤20000)(kq:∀ H' q,Same H H'→H q=none→H' q=some (.lst (nums y))→Q (.ref q) H'):yE CI CR Ts [V.ref p] H Q E0:=by
 refine aS h fun v SL rest G h1 h2 h3 h4=>?_;have hl:SL.length=y.length+rest.length:=by rw[h3,aFb]
 refine⟨H0,p,v,SL,[],rfl,G,by lia,by lia,fun H' q sm hq hv=>kq H' q sm hq ?_⟩;rw[h1,h2,h3,List.drop_zero,List.take_left] at hv;exact hv
theorem aAW{H0 H:Hp}{hv:List V}{Ln:Nat}{p:Addr}{v:RV}{SL:List Nat}{f:FV}{r:List FV}{k n:Nat}{s:Br.At}{l:List Br.Frame}{Q:VK}(G:dL CI CR Ts H0 H p v SL (f::r))(A:XR hv Ln v SL f r k s l n)(X3:Ln≤20000)(kq:∀ H' q,Same H H'→H q=none→H' q=some (.lst (nums s.row))→Q (.ref q) H'):yE CI CR Ts [V.ref p] H Q E0:=by
 obtain⟨rest,h3⟩:=A.pre;have h1:=A.first;have h2:=A.width;have h4:=A.len;have hl:SL.length=(cF s l).length+(s.row.length+rest.length):=by rw[h3];simp only[aFb]
 refine⟨H0,p,v,SL,f::r,rfl,G,by lia,by lia,fun H' q sm hq hv=>kq H' q sm hq ?_⟩;rw[h1,h2,h3,List.drop_left,List.take_left] at hv;exact hv
theorem FA(D:Def K mg "row_behind" v8 ["place","net","row"])(T:Txt K mg)(TR:kS K CR)(HU:EV P w K mg base "Run" CR ["self","place","net","row"] 3 (kP C CL CI CR))(j3:Own P w K mg base "do_layer" ["run"] 8 (m8 C CL CI CR Ts))(EN:cV P w K mg base CR "row" ["self"] 1 (yE CI CR Ts)):
  Own P w K mg base "row_behind" ["place","net","row"] 9 (j7 C CL Ts):=by
 refine D.own tQ (fun vs H Q E h=>?_) (fun fa cdv A outer s0 H vs Q Ex hr h=>?_)
 ·obtain⟨_,_,_,_,_,_,_,rfl,_⟩:=h;rfl
 ·obtain⟨hv,Hs,k,N,q,ra,x,rfl,I,kq⟩:=h;(refine aD I.good fun hw bO=>?_;refine aC bO fun y hy hth hyl=>?_);have hnb:=BM.vA I.ok k N I.kept;have hk7:=I.k7;have hm:1024*(k+1)≤1024*8:=Nat.mul_le_mul_left _ (by lia);have X3:N.need≤20000:=by lia
  refine⟨_,(aZ (bK (i:=3) tQ.nd rfl (Or.inl rfl) (DC HU hr (by decide) rfl (aY (pv 0) (aY (pv 1) (aY (pv 2) a6)))))
   (aZ (dG (wK PassesOwn.never (bU (jN (bY bQ (by rfl) T.len PySem.boot_len (aY (bB (pv 3) rfl) a6)) a8)) (bA (dA (bN j3 hr (by decide) rfl (aY (pv 3) a6))))))
   (bA (bI (cJ EN hr (by decide) (pv 3)))))),?_⟩
  walk_at"q";refine K7 I fun H1 p hS=>?_;refine⟨fun σ' H'=>σ'=[some (.int (k:Nat)),some (.ref q),some (.ref ra),some (.ref p)]∧xT CI CR Ts hv Hs N.need H H' p (.out y),?_,?_⟩
  ·refine⟨fun m σ' H'=>σ'=[some (.int (k:Nat)),some (.ref q),some (.ref ra),some (.ref p)]∧∃ i,i≤N.work∧m=N.work-i∧xT CI CR Ts hv Hs N.need H H' p (Br.turns Hs i (iG k N x)),⟨_,rfl,0,aFx _,rfl,hS⟩,?_⟩;rintro m σ' H' ⟨rfl,i,hi,em,hSi⟩;refine aP (CW hSi) fun v SL fs G hst=>?_;have F:=G.rd TR;walk_at"f";refine⟨_,.inl (cT.of G.nl),?_⟩;rw[aFj,aFd];rcases hst with ⟨y',hst,rfl⟩ | ⟨k1,N1,s1,l1,hst,hfl⟩
   ·rw[if_neg (by simp)];have e:y'=y:=by
     have h1:=BM.uL hi hst;rw[hy] at h1;injection h1 with h1
     exact h1.symm
    rw[←e,←hst];exact hSi
   ·rw[if_pos (by rw[hfl];exact aFc (by lia))];have hlt:i<N.work:=by
     refine aFA fun z=>?_;have ei:i=N.work:=by lia
     rw[ei,hy] at hst;cases hst
    refine⟨fun σ' H'=>∃ m',m'<m∧(σ'=[some (.int (k:Nat)),some (.ref q),some (.ref ra),some (.ref p)]∧∃ i,i≤N.work∧m'=N.work-i∧xT CI CR Ts hv Hs N.need H H' p (Br.turns Hs i (iG k N x))),fun σ' H' h=>h,?_⟩;rw[hst] at hSi;refine⟨H,p,hv,Hs,N.need,_,rfl,I.ok,I.nets,X3,hSi,fun H2 hS2=>⟨N.work-(i+1),by lia,rfl,i+1,hlt,rfl,?_⟩⟩;rw[BV,hst];exact hS2
  ·rintro σ' H2 ⟨rfl,hS2⟩;refine aP (id hS2) fun v SL rest G _=>?_;have F:=G.rd TR;walk_at"f";refine QY hS2 X3 fun H3 r sm hr0 hr=>kq H3 r (G.base.trans (.of sm)) (G.tabs.same sm) (rX G.base hr0) ?_ ?_
   ·rw[hth];exact hr
   ·rw[hth];exact hyl
theorem OT(D:Def K mg "watched" GB ["place","net","row","n"])(T:Txt K mg)(TR:kS K CR)(TI:lN K CI)(HU:EV P w K mg base "Run" CR ["self","place","net","row"] 3 (kP C CL CI CR))(j3:Own P w K mg base "do_layer" ["run"] 8 (m8 C CL CI CR Ts))(EN:cV P w K mg base CR "row" ["self"] 1 (yE CI CR Ts)):
  Own P w K mg base "watched" ["place","net","row","n"] 9 (uO C CL Ts):=by
 refine D.own lV (fun vs H Q E h=>?_) (fun fa cdv A outer s0 H vs Q Ex hr h=>?_)
 ·obtain⟨_,_,_,_,_,_,_,_,rfl,_⟩:=h;rfl
 ·obtain⟨hv,Hs,k,n,N,q,ra,x,rfl,I,kq⟩:=h;have hnb:=BM.vA I.ok k N I.kept;have hk7:=I.k7;have hm:1024*(k+1)≤1024*8:=Nat.mul_le_mul_left _ (by lia);have X3:N.need≤20000:=by lia
  refine⟨_,(aZ (bK (i:=4) lV.nd rfl (Or.inl rfl) (DC HU hr (by decide) rfl (aY (pv 0) (aY (pv 1) (aY (pv 2) a6)))))
   (aZ (bK (i:=5) lV.nd rfl (Or.inl rfl) a8)
   (aZ (dG (wK PassesOwn.never (PW.pt (pK (bU (wM (pv 5) (pv 3))) (lJ (bU (jN (bY bQ (by rfl) T.len PySem.boot_len (aY (bB (pv 4) rfl) a6)) a8))))) (aZ (dA (bN j3 hr (by decide) rfl (aY (pv 4) a6)))
   (bA (VN (i:=5) lV.nd rfl (Or.inl rfl) a8 WM)))))
   (aZ (cE (bU (cY (bY bQ (by rfl) T.len PySem.boot_len (aY (bB (pv 4) rfl) a6)) a8)) (bA (bI (bH jU (cG (aY a8 (aY a8 (aY a8 a6)))) (cJ EN hr (by decide) (pv 4))))) bT)
   (aZ (bK (i:=6) lV.nd rfl (Or.inl rfl) (cC bZ (bB (pv 4) rfl) (fD dZ a8) (fun _ _=>rfl)))
   (bA (bI (bH jU (cG (aY (bY bQ (by rfl) T.len PySem.boot_len (aY (bB (pv 4) rfl) a6)) (aY (bB (pv 6) rfl) (aY (bB (pv 6) rfl) a6)))) (cJ EN hr (by decide) (pv 4)))))))))),?_⟩
  walk_at"q";refine K7 I fun H1 p hS=>?_;refine⟨fun σ' H'=>∃ d,σ'=[some (.int (k:Nat)),some (.ref q),some (.ref ra),some (.int (n:Nat)),some (.ref p),d,none]∧xT CI CR Ts hv Hs N.need H H' p (Br.turns Hs n (iG k N x)),?_,?_⟩
  ·refine⟨fun m σ' H'=>∃ i,σ'=[some (.int (k:Nat)),some (.ref q),some (.ref ra),some (.int (n:Nat)),some (.ref p),some (.int (i:Nat)),none]∧i≤n∧m=n-i∧xT CI CR Ts hv Hs N.need H H' p (Br.turns Hs i (iG k N x)),⟨_,0,rfl,aFx _,rfl,hS⟩,?_⟩;rintro m σ' H' ⟨i,rfl,hi,em,hSi⟩;refine aP (CW hSi) fun v SL fs G hst=>?_;have F:=G.rd TR;walk_at"f";refine cZ (fun c=>?_) (fun c=>?_)
   ·have hlt:=aFf c;refine⟨_,.inl (cT.of G.nl),?_⟩;rw[aFj,aFd];rcases hst with ⟨y',hst,rfl⟩ | ⟨k1,N1,s1,l1,hst,hfl⟩
    ·rw[if_neg (by simp)];rw[BM.uL hi hst,←hst];exact hSi
    ·rw[if_pos (by rw[hfl];exact aFc (by lia))];refine⟨fun σ' H'=>∃ m',m'<m∧∃ i,σ'=[some (.int (k:Nat)),some (.ref q),some (.ref ra),some (.int (n:Nat)),some (.ref p),some (.int (i:Nat)),none]∧i≤n∧m'=n-i∧xT CI CR Ts hv Hs N.need H H' p (Br.turns Hs i (iG k N x)),fun σ' H' h=>h,?_⟩;rw[hst] at hSi;refine⟨H,p,hv,Hs,N.need,_,rfl,I.ok,I.nets,X3,hSi,fun H2 hS2=>?_⟩;walk_at"q";refine⟨n-(i+1),by lia,i+1,by rw[Int.natCast_add];rfl,by lia,rfl,?_⟩;rw[BV,hst];exact hS2
   ·have hge:i=n:=by
     have:¬((i:Int)<n):=fun z=>c (aFc z);lia
    subst hge;exact hSi
  ·rintro σ' H2 ⟨d,rfl,hS2⟩;refine aP (CW hS2) fun v SL fs G hst=>?_;have F:=G.rd TR;walk_at"f";refine⟨_,.inl (cT.of G.nl),?_⟩;rw[aFj,aFd];rcases hst with ⟨y,hst,rfl⟩ | ⟨k1,N1,s1,l1,hst,hfl⟩
   ·rw[if_pos (by simp)];rw[hst] at hS2 kq;refine⟨by decide,fun z hz=>?_⟩;have sz:=a9 (o:= .lst [V.int 0,V.int 0,V.int 0]) hz;have F:=(G.same sz).rd TR;rw[F.ME];have hyl:y.length≤20000:=by
     refine aS hS2 fun v' iB rest' _ _ _ h3 h4=>?_;rw[h3,aFb] at h4;lia
    refine QY (hS2.same sz) X3 fun H3 r sm hr0 hr=>⟨r,rfl,_,sm _ _ a7,_,hr,?_,fun p2 hp2=>?_⟩
    ·rw[bM,sizeLine_eq];show 3+y.length≤_;lia
    have sA:=sz.trans sm;have sB:=a9 (o:= .lst ([V.int 0,V.int 0,V.int 0]++nums y)) hp2;exact kq _ p2 (G.base.trans (.of (sA.trans sB))) (G.tabs.same (sA.trans sB)) (rX (G.base.trans (.of sA)) hp2) (by rw[a7];rfl) (by show y.length+3≤20003;lia)
   ·rw[if_neg (by rw[hfl];simp;lia)];rw[hst] at hS2 kq;(refine aF hS2 fun _ _ bO=>?_;refine aE bO fun v2 SL2 f2 cA=>?_;refine aA cA fun r2 G2 A2=>?_);have F:=G2.rd TR;have E:=G2.qD TI;refine aG A2.top fun b1 b2 b3 _=>?_;have evL:v.L=v2.L:=by
     obtain⟨d1,e1⟩:=G.at_;obtain⟨d2,e2⟩:=G2.at_;rw[e1] at e2;injection e2 with e2
     injection e2 with _ _ e3
     have:=congrArg (List.lookup ("nets":Str)) e3;rw[v.l_L,v2.l_L] at this;injection this with this
     injection this
    rw[evL];refine⟨_,cT.of G2.nl,_,pF rfl,?_⟩;walk_at"j";refine⟨_,.inl (cT.of G2.nl),by decide,fun z hz=>?_⟩;rw[aFj,aFd,List.length_cons,BJ A2.rest];have sz:=a9 (o:= .lst [V.int ((l1.length+1:Nat):Int),V.int (f2.place:Nat),V.int (f2.number:Nat)]) hz;have F:=(G2.same sz).rd TR;rw[F.ME];have hyl:s1.row.length≤20000:=by
     obtain⟨rest',h3⟩:=A2.pre;have h4:=A2.len;rw[h3] at h4;simp only[aFb] at h4;lia
    refine aAW (G2.same sz) A2 X3 fun H3 r sm hr0 hr=>⟨r,rfl,_,sm _ _ a7,_,hr,?_,fun p2 hp2=>?_⟩
    ·rw[bM,sizeLine_eq];show 3+s1.row.length≤_;lia
    have sA:=sz.trans sm;have sB:=a9 (o:= .lst ([V.int ((l1.length+1:Nat):Int),V.int (f2.place:Nat),V.int (f2.number:Nat)]++nums s1.row)) hp2;refine kq _ p2 (G2.base.trans (.of (sA.trans sB))) (G2.tabs.same (sA.trans sB)) (rX (G2.base.trans (.of sA)) hp2) ?_ (by show s1.row.length+3≤20003;lia);rw[a7,b1,b3];rfl
end
local macro_rules | `(tactic| walk_at"r")=>sm false (fL4) (mV++mL++lK++eS++fO++eM)
abbrev oU:Stmt:=inClass (top 93) 0
theorem vX:bJ ["self"] ["self"] (bC oU):=bV (by kernel_rfl)
abbrev p5:Stmt:=inClass (top 93) 1
theorem yL:bJ ["self","s"] ["self","s"] (bC p5):=bV (by kernel_rfl)
abbrev mC:Stmt:=inClass (top 93) 2
theorem k9:bJ ["self","s","place"] ["self","s"] (bC mC):=bV (by kernel_rfl)
abbrev CP:Stmt:=top 103
theorem zT:bJ ["house","s","net","found"] ["house","s","net"] (bC CP):=bV (by kernel_rfl)
abbrev K4:Stmt:=top 59
theorem SV:bJ ["a","b"] ["a","b"] (bC K4):=bV (by kernel_rfl)
structure tJ(K:W.Frag)(mg:Str→Option Value):Prop extends sE K mg where
 PLACES:GI mg "PLACES" 8
 MOST_ROWS:GI mg "MOST_ROWS" 64
 MOST_WATCHED:GI mg "MOST_WATCHED" 8192
 NO_PLACE:GI mg "NO_PLACE" (-20)
 NOT_AS_TOLD:GI mg "NOT_AS_TOLD" (-21)
structure sF(K:W.Frag)(C:Addr):Prop where
 cl:Cls K C
 nets:cS K C "nets"
def ND:HO→Prop
 | .lst _=>True
 | .ins _ _ fs=>(∃ u,fs=WV.fs u)∨∃ u,fs=LV.fs u
 | _=>False
theorem jO.keep{C:Addr}{H H':Hp}{q:Addr}{place kind:Nat}{z:Br.Spot}{l:Br.Layer}(h:jO C H q place kind z l)(k:∀ b o,H b=some o→ND o→H' b=some o):jO C H' q place kind z l:=by
 (refine aI h.at_ fun dx u h0 h1 h2 h3 h4 bO=>?_;refine aG bO fun h5 h6 cA h9=>?_;refine aA cA fun cols h7 h8=>?_);exact⟨dx,u,k _ _ h0 (.inr ⟨u,rfl⟩),h1,h2,h3,h4,h5,k _ _ h6 trivial,⟨cols,k _ _ h7 trivial,fun m wv c e=>(h8 m wv c e).keep fun a l x=>k _ _ x trivial⟩,k _ _ h9 trivial⟩
theorem kT.keep{C CL:Addr}{H H':Hp}{p a bl:Addr}{N:Br.Net}(h:kT C CL H p a bl N)(k:∀ b o,H b=some o→ND o→H' b=some o):kT C CL H' p a bl N:=by
 (refine aI h fun dx u h0 h1 h2 h3 h4 bO=>?_;refine aF bO fun h5 h6 cA=>?_;refine aA cA fun ys h7 h8=>?_);exact⟨dx,u,k _ _ h0 (.inl ⟨u,rfl⟩),h1,h2,h3,h4,h5,h6,ys,k _ _ h7 trivial,h8.1,fun i t e=>let ⟨q,q1,q2⟩:=h8.2 i t e;⟨q,q1,q2.keep k⟩⟩
theorem oE.keep{C CL:Addr}{H H':Hp}{hv:List V}{Hs:Br.House}(h:oE C CL H hv Hs)(k:∀ b o,H b=some o→ND o→H' b=some o):oE C CL H' hv Hs:=
 ⟨h.len,fun i N e=>let ⟨q,a,bl,h1,h2,h3⟩:=h.at_ i N e;⟨q,a,bl,h1,h2.keep k,k _ _ h3 trivial⟩,h.Y8⟩
def BS(C:Addr)(H:Hp)(hv:List V)(st:Brain.State):Prop:=∀ k N,Br.kept st.nets k=some N→∃ q dx u b,hv[k]?=some (.ref q)∧H q=some (.ins C dx (WV.fs u))∧H u.net=some (.lst (nums b))∧(∀ x∈b,x<256)∧b.length≤16400∧st.bytes.getD k []=BM.bytesOf b
theorem BS.keep{C:Addr}{H H':Hp}{hv:List V}{st:Brain.State}(h:BS C H hv st)(k:∀ b o,H b=some o→ND o→H' b=some o):BS C H' hv st:=fun i N e=>
 let ⟨q,dx,u,b,h1,h2,h3,h4⟩:=h i N e
 ⟨q,dx,u,b,h1,k _ _ h2 (.inl ⟨u,rfl⟩),k _ _ h3 trivial,h4⟩
structure cD(CH C CL:Addr)(H:Hp)(ph hl:Addr)(hv:List V)(st:Brain.State):Prop where
 at_:∃ dx,H ph=some (.ins CH dx [("nets",.ref hl)])
 nl:H hl=some (.lst hv)
 nets:oE C CL H hv st.nets
 bys:BS C H hv st
 is_:BM.lO st
section
variable{CH C CL:Addr}{H H':Hp}{ph hl:Addr}{hv:List V}{st:Brain.State}
theorem cD.keep(h:cD CH C CL H ph hl hv st)(k:∀ b o,H b=some o→ND o∨(∃ C dx hl,o= .ins C dx [("nets",.ref hl)])→H' b=some o):cD CH C CL H' ph hl hv st:=by
 obtain⟨dx,h1⟩:=h.at_;have k':∀ b o,H b=some o→ND o→H' b=some o:=fun b o e n=>k b o e (.inl n);exact⟨⟨dx,k _ _ h1 (.inr ⟨_,_,_,rfl⟩)⟩,k' _ _ h.nl trivial,h.nets.keep k',h.bys.keep k',h.is_⟩
theorem Y7{o:HO}(h:ND o∨∃ C dx hl,o= .ins C dx [("nets",.ref hl)]):∀ ps,o≠.qA ps:=fun ps z=>by
 subst z;rcases h with h | ⟨_,_,_,h⟩
 ·exact h
 ·cases h
theorem cD.smt(h:cD CH C CL H ph hl hv st)(sm:pB H H'):cD CH C CL H' ph hl hv st:=h.keep fun b o e n=>sm b o e (Y7 n)
theorem cD.same(h:cD CH C CL H ph hl hv st)(sm:Same H H'):cD CH C CL H' ph hl hv st:=h.smt (.of sm)
theorem S5{o:HO}{CC dx a:Addr}{i:Nat}(h:ND o∨∃ C dx hl,o= .ins C dx [("nets",.ref hl)]):o≠.ins CC dx (cf a i):=fun z=>by
 subst z;have key:∀ {fs:List (Str×V)},cf a i=fs→fs.head?.map (·.1)=some ("numbers":Str):=fun e=>by rw[←e];rfl
 rcases h with (⟨u,h⟩ | ⟨u,h⟩) | ⟨_,_,_,h⟩
 ·have:=key h;revert this;show some ("net":Str)=some ("numbers":Str)→False;decide +kernel
 ·have:=key h;revert this;show some ("place":Str)=some ("numbers":Str)→False;decide +kernel
 ·injection h with _ _ h
  have:=key h;revert this;show some ("nets":Str)=some ("numbers":Str)→False;decide +kernel
theorem cD.but{CC dx a p:Addr}{i:Nat}(h:cD CH C CL H ph hl hv st)(hp:H p=some (.ins CC dx (cf a i)))(b:But p H H'):cD CH C CL H' ph hl hv st:=h.keep fun c o e n=>b c o e fun z=>by
 rw[z,hp] at e;exact S5 n (aFa e).symm
theorem cD.item(h:cD CH C CL H ph hl hv st)(k:Nat):(Br.kept st.nets k=none∧hv.getD k .non= .non)∨∃ N q a bl,Br.kept st.nets k=some N∧k<8∧hv[k]?=some (.ref q)∧hv.getD k .non= .ref q∧kT C CL H q a bl N∧H bl=some (.lst (hv.take k)):=by
 cases e:Br.kept st.nets k with
 | none=>
  refine .inl ⟨rfl,?_⟩;by_cases c:k<8
  ·rw[aFe,h.nets.Y8 k c e];rfl
  ·rw[aFe,List.getElem?_eq_none (by rw[h.nets.len];lia)];rfl
 | some N=>
  refine aJ (h.nets.at_ k N e) fun q a bl h1 h2 h3=>?_;have hk:=BM.BH e;rw[h.is_.len] at hk;exact .inr ⟨N,q,a,bl,rfl,hk,h1,by rw[aFe,h1];rfl,h2,h3⟩
theorem cD.below(h:cD CH C CL H ph hl hv st){s:Nat}(hs:s≤8):iM C H (hv.take s) st.nets s:=by
 have hl:=h.nets.len;refine⟨by rw[aFq];lia,fun i hi=>?_⟩;have eg:(hv.take s).getD i .non=hv.getD i .non:=by rw[aFe,aFe,aFP hi]
 rw[eg];rcases h.item i with z | ⟨N,q,a,bl,h1,h2,_,h3,h4,_⟩
 ·exact .inl z
 ·(refine aI h4 fun dx u e0 _ _ e3 e4 bO=>?_;refine aF bO fun e5 e6 _=>?_);exact .inr ⟨N,q,h1,h3,dx,u,e0,e3,e4,e5,e6,BM.D5 (h.is_.ok i N h1)⟩
theorem cD.Q9(h:cD CH C CL H ph hl hv st)(l:List Nat):nums l≠hv:=fun z=>by
 have hl8:=h.nets.len;have h0:hv[0]?=some (hv.getD 0 .non):=by
  rw[aFe,aFv (by lia)];rfl
 rw[←z] at hl8;rw[bM] at hl8;have e:hv[0]?=some (V.int (l.getD 0 0:Nat)):=by
  rw[←z];exact mG (by lia)
 rw[h0] at e;rcases h.item 0 with ⟨_,q⟩ | ⟨N,q,a,bl,_,_,_,q,_⟩
 ·rw[q] at e;cases e
 ·rw[q] at e;cases e
theorem cD.RA{x a bl:Addr}{N:Br.Net}{hv':List V}(h:cD CH C CL H ph hl hv st)(n:kT C CL H x a bl N):kT C CL (upd H hl (.lst hv')) x a bl N:=by
 have hl8:=h.nets.len;have nn:∀ b l,H b=some (.lst (nums l))→(upd H hl (.lst hv')) b=some (.lst (nums l)):=fun b l e=>by
  rw[bF fun z=>?_]
  ·exact e
  ·rw[z,h.nl] at e;injection e with e
   injection e with e
   exact h.Q9 l e.symm
 have ni:∀ b C dx fs,H b=some (.ins C dx fs)→(upd H hl (.lst hv')) b=some (.ins C dx fs):=fun b C dx fs e=>by
  rw[bF fun z=>?_]
  ·exact e
  ·rw[z,h.nl] at e;cases e
 have first:∀ v,hv[0]?=some v→v= .non∨∃ q dx u,v= .ref q∧H q=some (.ins C dx (WV.fs u)):=fun v e=>by
  have h0:hv[0]?=some (hv.getD 0 .non):=by
   rw[aFe,aFv (by lia)];rfl
  rw[h0] at e;have e':=aFa e;rcases h.item 0 with ⟨_,q⟩ | ⟨N,q,a,bl,_,_,_,q',hn,_⟩
  ·exact .inl (by rw[←e',q])
  ·refine aH hn fun dx u e0 _=>?_;exact .inr ⟨q,dx,u,by rw[←e',q'],e0⟩
 (refine aI n fun dx u h0 h1 h2 h3 h4 bO=>?_;refine aF bO fun h5 h6 cA=>?_;refine aA cA fun ys h7 h8=>?_);have lay:∀ q at_ kind z l,jO CL H q at_ kind z l→jO CL (upd H hl (.lst hv')) q at_ kind z l:=fun q at_ kind z l L=>by
  (refine aI L.at_ fun dq w g0 g1 g2 g3 g4 dF=>?_;refine aG dF fun g5 g6 eX g9=>?_;refine aA eX fun cols g7 g8=>?_);refine⟨dq,w,ni _ _ _ _ g0,g1,g2,g3,g4,g5,nn _ _ g6,?_,nn _ _ g9⟩;by_cases c:w.columns=hl
  ·refine⟨hv',by rw[c,a7],fun m wv cc e=>?_⟩;exfalso;have ec:cols=hv:=by
    rw[c,h.nl] at g7;injection g7 with g7
    injection g7 with g7
    exact g7.symm
   obtain⟨q1,q2⟩:=g8 m wv cc e;rw[ec,hl8] at q1;refine aA (q2 0 (by lia)) fun a0 p1 p2=>?_;rw[ec] at p1;rcases first _ p1 with z | ⟨q',P0,u',z,z2⟩
   ·cases z
   ·cases z;rw[z2] at p2;cases p2
  ·exact⟨cols,by rw[bF c];exact g7,fun m wv cc e=>let ⟨q1,q2⟩:=g8 m wv cc e;⟨q1,fun j hj=>let ⟨a0,p1,p2⟩:=q2 j hj;⟨a0,p1,nn _ _ p2⟩⟩⟩
 have ny:u.layers≠hl:=fun z=>by
  rw[z,h.nl] at h7;injection h7 with h7
  injection h7 with h7
  have hlen:=h8.1;rw[←h7,hl8] at hlen;have ht:∃ t,N.layers[0]?=some t:=⟨N.layers[0],aFv (by lia)⟩;obtain⟨t,ht⟩:=ht;refine aA (h8.2 0 t ht) fun q q1 q2=>?_;rw[←h7] at q1;refine aH q2.at_ fun dq w g0 _=>?_;rcases first _ q1 with z | ⟨q',P0,u',z,z2⟩
  ·cases z
  ·cases z;rw[z2] at g0;injection g0 with g0
   injection g0 with _ _ g0
   have:(WV.fs u').head?.map (·.1)=(LV.fs w).head?.map (·.1):=by rw[g0]
   revert this;show some ("net":Str)=some ("place":Str)→False;decide +kernel
 exact⟨dx,u,ni _ _ _ _ h0,h1,h2,h3,h4,h5,h6,ys,by rw[bF ny];exact h7,h8.1,fun i t e=>let ⟨q,q1,q2⟩:=h8.2 i t e;⟨q,q1,lay _ _ _ _ _ q2⟩⟩
end
theorem GO(x:V)(l:List V):∀ i,List.replicate i x++x::l=x::(List.replicate i x++l)
 | 0=>rfl
 | i+1=>by
  rw[List.replicate_succ,List.cons_append,GO x l i,List.cons_append]
inductive nV(CH:Addr)(vs:List V)(H:Hp)(Q:VK)(E:XK):Prop
 | mk (ph dx:Addr) (_:vs=[.ref ph]) (_:H ph=some (.ins CH dx [])) (_:∀ H' hl,But ph H H'→H hl=none→hl≠ph→H' hl=some (.lst (List.replicate 8 .non))→H' ph=some (.ins CH dx [("nets",.ref hl)])→Q .non H'):nV CH vs H Q E
inductive iO(CH C CL:Addr)(vs:List V)(H:Hp)(Q:VK)(E:XK):Prop
 | mk (ph hl:Addr) (hv:List V) (st:Brain.State) (s:Nat) (_:vs=[.ref ph,.int s]) (_:cD CH C CL H ph hl hv st) (_:Q (hv.getD s .non) H):iO CH C CL vs H Q E
inductive j9(CH C CL:Addr)(vs:List V)(H:Hp)(Q:VK)(E:XK):Prop
 | mk (ph hl:Addr) (hv:List V) (st:Brain.State) (s:Nat) (_:vs=[.ref ph,.int s]) (_:cD CH C CL H ph hl hv st) (_:s≤8) (_:Q .non (upd H hl (.lst (hv.take s++List.replicate (8-s) .non)))):j9 CH C CL vs H Q E
inductive yG(vs:List V)(H:Hp)(Q:VK)(E:XK):Prop
 | mk (pa pb:Addr) (a b:List Nat) (_:vs=[.ref pa,.ref pb]) (_:H pa=some (.lst (nums a))) (_:H pb=some (.lst (nums b))) (_:1≤a.length) (_:a.length≤16400) (_:6≤b.length) (_:b.length≤16400) (_:∀ H' q,Same H H'→H q=none→H' q=some (.lst (nums (a.dropLast++b.drop 6)))→Q (.ref q) H'):yG vs H Q E
def aDj(C CL:Addr)(H H':Hp)(a s:Nat)(hv:List V)(x y:V):Except Br.Fault Br.Net→Prop
 | .error e=>∃ q,x= .ref q∧H q=none∧H' q=some (.lst [.int e.1,.int (e.2:Nat)])
 | .ok N=>x= .non∧∃ p bl,y= .ref p∧kT C CL (tG H H') p a bl N∧H bl=none∧H' bl=some (.lst (hv.take s))
inductive gK(CH C CL:Addr)(vs:List V)(H:Hp)(Q:VK)(E:XK):Prop
 | mk (ph hl a:Addr) (hv:List V) (st:Brain.State) (s:Nat) (b:List Nat) (_:vs=[.ref ph,.int s,.ref a]) (_:cD CH C CL H ph hl hv st) (_:H a=some (.lst (nums b))) (_:(∀ x∈b,x<256)) (_:b.length≤40000) (_:∀ H' r x y,Same H H'→H' r=some (.tup [x,y])→(8<s→∃ q,x= .ref q∧H q=none∧H' q=some (.lst [.int (-20)]))→(s≤8→aDj C CL H H' a s hv x y (Br.judge st.nets s (BM.bytesOf b)))→Q (.ref r) H'):gK CH C CL vs H Q E
section
variable{P:Program}{w:World}{K:W.Frag}{mg:Str→Option Value}{base:Heap}{CH C CL:Addr}
theorem FL(D:pV K CH "__init__" "House.__init__" oU ["self"])(T:tJ K mg)(TC:sF K CH):cV P w K mg base CH "__init__" ["self"] 1 (nV CH):=by
 refine D.own TC.cl vX (fun vs H Q E h=>?_) (fun f cdv A outer s H vs Q E hr h=>?_)
 ·obtain⟨_,_,rfl,_⟩:=h;rfl
 ·obtain⟨ph,dx,rfl,hp,kq⟩:=h;refine⟨_,(bA (cP (pv 0) (bH OR (cG (aY n9 a6)) (cH rfl T.PLACES)) rfl)),?_⟩;walk_at"0";refine⟨by decide,fun z hz=>⟨_,a7,by decide,by decide,by decide,fun hl hhl=>?_⟩⟩;have nz:z≠ph:=fun e=>by rw[e,hp] at hz;cases hz
  have nl:hl≠ph:=fun e=>by rw[e,bF (Ne.symm nz),hp] at hhl;cases hhl
  have s1:=a9 (o:= .lst [V.non]) hz;have s2:=s1.trans (a9 (o:= .lst (List.replicate 8 [V.non]).flatten) hhl);refine cO (s2 _ _ hp) TC.cl TC.nets (by decide) ?_;refine kq _ hl ((But.of s2).trans dW) (s1.free hhl) nl ?_ ?_
  ·rw[bF nl,a7];rfl
  ·rw[a7];rfl
theorem O0(D:pV K CH "kept_at" "House.kept_at" p5 ["self","s"])(T:tJ K mg)(TC:sF K CH):cV P w K mg base CH "kept_at" ["self","s"] 1 (iO CH C CL):=by
 refine D.own TC.cl yL (fun vs H Q E h=>?_) (fun f cdv A outer s0 H vs Q E hr h=>?_)
 ·obtain⟨_,_,_,_,_,rfl,_⟩:=h;rfl
 ·obtain⟨ph,hl,hv,st,s,rfl,HA,kq⟩:=h;obtain⟨dx,hp⟩:=HA.at_;have F:=fun Q=>cQ (Q:=Q) hp TC.cl TC.nets (v:= .ref hl) rfl;have h8:=HA.nets.len;refine⟨_,(bA (bI (iE (bU (wM (pv 1) (cH rfl T.PLACES))) (cC bZ (bB (pv 0) rfl) (pv 1) (fun _ _=>rfl)) n9))),?_⟩;walk_at"r";refine cZ (fun c=>?_) (fun c=>?_)
  ·have c':=aFf c;have hs:s<8:=by lia
   refine⟨_,cT.of HA.nl,_,at_of (j:=s) (v:=hv.getD s .non) rfl ?_,kq⟩;rw[aFe,aFv (by lia)];rfl
  ·have hs:8≤s:=by
    have:¬((s:Int)<8):=fun z=>c (aFc z);lia
   rw[aFe,List.getElem?_eq_none (by lia)] at kq;exact kq
theorem FC(D:pV K CH "clear_from" "House.clear_from" mC ["self","s"])(T:tJ K mg)(TC:sF K CH):cV P w K mg base CH "clear_from" ["self","s"] 1 (j9 CH C CL):=by
 refine D.own TC.cl k9 (fun vs H Q E h=>?_) (fun f cdv A outer s0 H vs Q E hr h=>?_)
 ·obtain⟨_,_,_,_,_,rfl,_⟩:=h;rfl
 ·obtain⟨ph,hl,hv,st,s,rfl,HA,hs,kq⟩:=h;obtain⟨dx,hp⟩:=HA.at_;have h8:=HA.nets.len;have npl:ph≠hl:=fun z=>by rw[z,HA.nl] at hp;cases hp
  refine⟨_,(bA (dG (jD PassesOwn.never rfl (sT rfl T.range (aY (pv 1) (aY (cH rfl T.PLACES) a6))) (dM (i:=2) k9.nd rfl (Or.inl rfl)) (bA (mD n9 (mE (bB (pv 0) rfl) (pv 2) set_list)))))),?_⟩;refine⟨fun σ' H'=>H'=upd H hl (.lst (hv.take s++List.replicate (8-s) .non)),?_,fun σ' H' h=>by rw[h];exact kq⟩;walk_at"0";refine⟨_,_,⟨rfl,rfl⟩,⟨by lia,by lia,by lia,by lia⟩,fM (lo:=((s:Nat):Int)) (n:=((8:Int)-((s:Nat):Int)).toNat) (fun i σ' H'=>(∃ z,σ'=[some (.ref ph),some (.int (s:Nat)),z])∧H'=upd H hl (.lst (hv.take s++(List.replicate i .non++hv.drop (s+i))))) ⟨⟨none,rfl⟩,?_⟩ ?_ ?_⟩
  ·rw[List.replicate_zero,List.nil_append,Nat.add_zero,List.take_append_drop];exact KN HA.nl
  ·rintro i σ' H' hi ⟨⟨z,rfl⟩,rfl⟩;have hi':s+i<8:=by lia
   have F:=fun Q=>cQ (Q:=Q) (H:=upd H hl (.lst (hv.take s++(List.replicate i V.non++hv.drop (s+i))))) (p:=ph) (by rw[bF npl];exact hp) TC.cl TC.nets (v:= .ref hl) rfl;have hlen:(hv.take s++(List.replicate i V.non++hv.drop (s+i))).length=8:=by
    rw[aFb,aFb,aFq,aFL,aFp];lia
   walk_at"r";refine⟨_,a7,s+i,uC (by lia) (by lia),⟨_,rfl⟩,?_⟩;rw[dD];congr 2;have l1:(hv.take s).length=s:=by rw[aFq];lia
   rw[List.set_append_right _ _ (by lia),l1,List.set_append_right _ _ (by rw[aFL];lia),aFL,show s+i-s-i=0 from by lia,List.drop_eq_getElem_cons (show s+i<hv.length by lia),List.set_cons_zero,GO,show s+(i+1)=s+i+1 from by lia]
  ·rintro σ' H' ⟨_,rfl⟩;rw[show ((8:Int)-((s:Nat):Int)).toNat=8-s from by lia,show s+(8-s)=8 from by lia,List.drop_eq_nil_of_le (show hv.length≤8 by lia),List.append_nil]
theorem S1(D:Def K mg "joined" K4 ["a","b"])(T:tJ K mg):Own P w K mg base "joined" ["a","b"] 1 yG:=by
 refine D.own SV (fun vs H Q E h=>?_) (fun f cdv A outer s0 H vs Q E hr h=>?_)
 ·obtain⟨_,_,_,_,rfl,_⟩:=h;rfl
 ·obtain⟨pa,pb,a,b,rfl,ha,hb,h1,h2,h3,h4,kq⟩:=h;refine⟨_,(bA (bI (bH jU (jE m9 (pv 0) wL (gU (fD dZ a8))) (jE m9 (pv 1) (gU (cH rfl T.HEAD)) wL)))),?_⟩;walk_at"0";refine⟨_,cT.of ha,fun z hz=>?_⟩;have s1:=a9 (o:= .lst (mN (nums a) none (some (-1)))) hz;refine⟨_,cT.of (s1 _ _ hb),fun z2 hz2=>?_⟩;have s2:=a9 (o:= .lst (mN (nums b) (some 6) none)) hz2;have e1:mN (nums a) none (some (-1))=nums a.dropLast:=by
   unfold mN;rw[show HT.jC (nums a).length 0 none=0 from rfl,List.drop_zero,Nat.sub_zero];have:HT.jC (nums a).length (nums a).length (some (-1))=a.length-1:=by
    show (if (-1:Int)<0 then ((-1:Int)+((nums a).length:Int)).toNat else min (-1:Int).toNat (nums a).length)=a.length-1;rw[if_pos (by decide),bM];lia
   rw[this];unfold nums;rw[List.dropLast_eq_take,List.map_take]
  have e2:mN (nums b) (some 6) none=nums (b.drop 6):=by
   unfold mN;rw[show HT.jC (nums b).length (nums b).length none=(nums b).length from rfl,show (6:Int)=((6:Nat):Int) from rfl,HT.pJ,bM,Nat.min_eq_left h3];unfold nums;rw[←List.map_drop,←List.map_take,List.take_of_length_le (by rw[aFp];lia)]
  have nz:z≠z2:=fun e=>by rw[←e,a7] at hz2;cases hz2
  refine⟨_,by rw[bF nz];exact a7,_,a7,?_,fun q hq=>?_⟩
  ·rw[e1,e2,bM,bM,List.length_dropLast,aFp,sizeLine_eq];lia
  refine kq _ q ((s1.trans s2).trans (a9 hq)) ((s1.trans s2).free hq) ?_;rw[a7,e1,e2];unfold nums;rw[aFC]
theorem LW(D:Def K mg "examined" CP ["house","s","net"])(T:tJ K mg)(TC:sF K CH)(EO:Own P w K mg base "judged" ["net","below"] 8 (yF C CL)):Own P w K mg base "examined" ["house","s","net"] 9 (gK CH C CL):=by
 refine D.own zT (fun vs H Q E h=>?_) (fun f cdv A outer s0 H vs Q E hr h=>?_)
 ·obtain⟨_,_,_,_,_,_,_,rfl,_⟩:=h;rfl
 ·obtain⟨ph,hl,a,hv,st,s,b,rfl,HA,ha,xE,hlen,kq⟩:=h;obtain⟨dx,hp⟩:=HA.at_;have F:=fun Q=>cQ (Q:=Q) hp TC.cl TC.nets (v:= .ref hl) rfl;have h8:=HA.nets.len;refine⟨_,(aZ (cE (bU (jN (pv 1) (cH rfl T.PLACES))) (bA (bI (fC (aY (cG (aY (cH rfl T.NO_PLACE) a6)) (aY n9 a6))))) bT)
   (aZ (bK (i:=3) zT.nd rfl (Or.inl rfl) (bN EO hr (by decide) rfl (aY (pv 2) (aY (jE m9 (bB (pv 0) rfl) wL (gU (pv 1))) a6))))
   (aZ (cE (bU (pM (cC dS (pv 3) a8 (fun _ _=>rfl)))) (bA (bI (fC (aY (yO xN (by rfl) T.list PyProof.Rows.boot_list (aY (cC dS (pv 3) a8 (fun _ _=>rfl)) a6)) (aY n9 a6))))) bT)
   (bA (bI (fC (aY n9 (aY (cC dS (pv 3) a8 (fun _ _=>rfl)) a6)))))))),?_⟩
  walk_at"r";refine cZ (fun c=>?_) (fun c=>?_)
  ·have c':=aFf c;have hs:8<s:=by lia
   refine⟨by decide,fun z hz=>⟨by decide,fun r hr=>?_⟩⟩;have s1:=a9 (o:= .lst [V.int (-20)]) hz;have s2:=a9 (o:= .tup [V.ref z,V.non]) hr;refine kq _ r _ _ (s1.trans s2) a7 (fun _=>⟨z,rfl,hz,?_⟩) (fun h=>absurd h (by lia));exact s2 _ _ a7
  ·have hs:s≤8:=by
    have:¬((s:Int)>8):=fun z=>c (aFc z);lia
   refine⟨_,cT.of HA.nl,fun bl xZ=>?_⟩;have s1:=a9 (o:= .lst (mN hv none (some ((s:Nat):Int)))) xZ;have e1:mN hv none (some ((s:Nat):Int))=hv.take s:=by
    unfold mN;rw[show HT.jC hv.length 0 none=0 from rfl,HT.pJ,List.drop_zero,Nat.sub_zero,Nat.min_eq_left (by lia)]
   rw[e1] at s1 ⊢;refine⟨a,bl,b,hv.take s,st.nets,s,rfl,s1 _ _ ha,xE,hlen,a7,(HA.below hs).same s1,fun H2 r x y sm hr2 J=>?_⟩;have s2:=s1.trans sm;have aCM:=sm _ _ (a7 (H:=H) (a:=bl) (o:= .lst (hv.take s)));walk_at"0";refine⟨_,gF.of hr2,x,rfl,?_⟩
   cases ej:Br.judge st.nets s (BM.bytesOf b) with
   | error e=>
    rw[ej] at J kq;(refine aA J fun q bO hq=>?_;subst bO);rw[if_pos (by rfl)];refine⟨_,gF.of hr2,V.ref q,rfl,q,rfl,_,.inr (gF.of hq),fun l hl=>⟨by decide,fun r2 xD=>?_⟩⟩;have s3:=a9 (o:= .lst [V.int e.1,V.int (e.2:Nat)]) hl;have s4:=a9 (o:= .tup [V.ref l,V.non]) xD;exact kq _ r2 _ _ ((s2.trans s3).trans s4) a7 (fun h=>absurd h (by lia)) (fun _=>⟨l,rfl,s2.free hl,s4 _ _ a7⟩)
   | ok N=>
    rw[ej] at J kq;(refine aD J fun cA dF=>?_;refine aA dF fun pn eX hn=>?_;subst cA;subst eX);rw[if_neg (by decide)];refine⟨_,gF.of hr2,V.ref pn,rfl,by decide,fun r2 xD=>?_⟩;have s4:=a9 (o:= .tup [V.non,V.ref pn]) xD;exact kq _ r2 _ _ (s2.trans s4) a7 (fun h=>absurd h (by lia)) (fun _=>⟨rfl,pn,bl,rfl,hn.smt (.of fun b o e=>pR (s1.free (pQ e).1) (s4 _ _ (pQ e).2)),xZ,s4 _ _ aCM⟩)
end
local macro_rules | `(tactic| walk_at"n")=>sm false (fL5) (mV++mL++lK++eS++fO++eM)
local macro_rules | `(tactic| walk_at"v")=>sm false (ZY) (mV++mL++lK++eS++fO++eM)
abbrev wE:Stmt:=top 104
theorem nZ:bJ ["house","calls","s","found"] ["house","calls"] (bC wE):=bV (by kernel_rfl)
abbrev zZ:Stmt:=top 105
theorem lG:bJ ["house","calls","s","found","net"] ["house","calls"] (bC zZ):=bV (by kernel_rfl)
abbrev wD:Stmt:=top 106
theorem iD:bJ ["house","calls","s","i","found","layer"] ["house","calls"] (bC wD):=bV (by kernel_rfl)
def told(a:Brain.Answer):List Int:=a.ret::BrainNeutral.behind a
theorem eD{z:Int}:told (Brain.says z)=[z]:=by
 unfold told BrainNeutral.behind Brain.says
 split <;> rfl
theorem gG(l:List Nat):told (Brain.tells l)=0::l.map fun (n:Nat)=>(n:Int):=by
 show 0::((l.map fun (n:Nat)=>(n:Int))++[])=_;rw[List.append_nil]
theorem qK(e:Br.Fault):told (Brain.faulty e)=[e.1,(e.2:Nat)]:=by
 unfold told BrainNeutral.behind Brain.faulty
 split <;> rfl
theorem KS(e:Br.Fault):told (Brain.second e)=[e.1-10,(e.2:Nat)]:=by
 unfold told BrainNeutral.behind Brain.second
 split <;> rfl
theorem BY{l:List Nat}(h:∀ x∈l,x<256):told (Brain.gives (BM.bytesOf l))=0::l.map fun (n:Nat)=>(n:Int):=by
 show 0::(([]:List Int)++if (0:Int)<0 then [] else Lines.toInts (BM.bytesOf l))=_;rw[if_neg (by decide),List.nil_append,BM.SK h]
theorem f9{c:List (List Int)}{x:Brain.Call}(h:BrainNeutral.callOf c=some x)(st:Brain.State):BrainNeutral.step st c=((Brain.step st x).1,told (Brain.step st x).2):=by
 unfold BrainNeutral.step;rw[h];rfl
theorem o7(l:List Nat):(0::l.map fun (n:Nat)=>(n:Int)).map V.int=V.int 0::nums l:=by
 rw[List.map_cons,dJ]
def aDe(p hl:Addr)(H H':Hp):Prop:=∀ b o,H b=some o→(∀ ps,o≠.qA ps)→b≠p→b≠hl→H' b=some o
structure oF(K:W.Frag)(CC CH C CL:Addr)(Ts:TL)(H:Hp)(ph p a hl g:Addr)(hv:List V)(st:Brain.State)(ns:List Int)(i:Nat)(n:Int)(c:List (List Int))(t:List Int):Prop where
 calls:cU K CC H p a ns i
 house:cD CH C CL (del H g) ph hl hv st
 gl:∃ xs,H g=some (.lst xs)
 nah:NeK K a hl (ns.map V.int)
 tabs:mQ Ts H
 call:PyFlat.call PyWrbrnr.shape (n::ns.drop i)=some (c,t)
 bound:PyInside.call PyWrbrnr.bound c=true
 most:ns.length≤30000
structure BR(K:W.Frag)(CC CH C CL:Addr)(Ts:TL)(H H':Hp)(ph p a hl g:Addr)(hv':List V)(st:Brain.State)(ns:List Int)(i':Nat)(c:List (List Int))(t:List Int)(q:Addr):Prop where
 keep:aDe p hl H H'
 calls:cU K CC H' p a ns i'
 rest:ns.drop i'=t
 house:cD CH C CL (del H' g) ph hl hv' (BrainNeutral.step st c).1
 tabs:mQ Ts H'
 fresh:uG H q
 ans:H' q=some (.lst ((BrainNeutral.step st c).2.map V.int))
inductive gD(K:W.Frag)(CC CH C CL:Addr)(Ts:TL)(n:Int)(vs:List V)(H:Hp)(Q:VK)(E:XK):Prop
 | mk (ph p a hl g:Addr) (hv:List V) (st:Brain.State) (ns:List Int) (i:Nat) (c:List (List Int)) (t:List Int) (_:vs=[.ref ph,.ref p]) (_:oF K CC CH C CL Ts H ph p a hl g hv st ns i n c t) (_:∀ H' q i' hv',BR K CC CH C CL Ts H H' ph p a hl g hv' st ns i' c t q→Q (.ref q) H'):gD K CC CH C CL Ts n vs H Q E
theorem eK{K:W.Frag}{CC CH C CL:Addr}{Ts:TL}{n:Int}{vs:List V}{H:Hp}{Q:VK}{E:XK}(h:gD K CC CH C CL Ts n vs H Q E):vs.length=2:=by
 obtain⟨_,_,_,_,_,_,_,_,_,_,_,rfl,_⟩:=h;rfl
theorem N9{K:W.Frag}{H H':Hp}{a:Addr}{xs:List V}(sm:∀ b o,H b=some o→b=a→(∀ ps,o≠.qA ps)→H' b=some o)(h:cT K H a xs):cT K H' a xs:=by
 rcases h with (h | ⟨o,h⟩) | h
 ·exact .inl (.inl (sm _ _ h rfl fun _ z=>by cases z))
 ·exact .inl (.inr ⟨o,sm _ _ h rfl fun _ z=>by cases z⟩)
 ·exact .inr h
theorem cU.smt{K:W.Frag}{C p a:Addr}{H H':Hp}{ns:List Int}{i:Nat}(c:cU K C H p a ns i)(sm:pB H H'):cU K C H' p a ns i:=by
 obtain⟨⟨dx,h⟩,sq,ne⟩:=c;exact⟨⟨dx,sm _ _ h fun _ z=>by cases z⟩,N9 (fun b o e _ n=>sm b o e n) sq,ne⟩
section
variable{K:W.Frag}{CC CH C CL:Addr}{Ts:TL}{H H1 H2:Hp}{ph p a hl g q:Addr}{hv:List V}{st:Brain.State}{ns:List Int}{i i1:Nat}{n:Int}{c:List (List Int)}{t:List Int}
theorem QR(sm:pB H1 H2):pB (del H1 g) (del H2 g):=fun b o e n=>by
 have nb:b≠g:=fun z=>by rw[z,fN] at e;cases e
 rw[dU nb] at e ⊢;exact sm b o e n
theorem RW:Same (del H g) H:=fun b o e=>by
 have nb:b≠g:=fun z=>by rw[z,fN] at e;cases e
 rw[dU nb] at e;exact e
theorem X9{x:Addr}{o:HO}(h:x≠g):del (upd H x o) g=upd (del H g) x o:=by
 funext b;by_cases c:b=g
 ·subst c;rw[fN,bF (Ne.symm h),fN]
 ·rw[dU c];by_cases c2:b=x
  ·subst c2;rw[a7,a7]
  ·rw[bF c2,bF c2,dU c]
theorem oF.S9(I:oF K CC CH C CL Ts H ph p a hl g hv st ns i n c t)(b:But p H H1):cD CH C CL (del H1 g) ph hl hv st:=by
 obtain⟨dx,hp⟩:=I.calls.at_;obtain⟨xs,hg⟩:=I.gl;have np:p≠g:=fun z=>by rw[z,hg] at hp;cases hp
 refine I.house.but (dx:=dx) (by rw[dU np];exact hp) fun c o e n=>?_;have nb:c≠g:=fun z=>by rw[z,fN] at e;cases e
 rw[dU nb] at e ⊢;exact b c o e n
theorem oF.mid(I:oF K CC CH C CL Ts H ph p a hl g hv st ns i n c t)(b:But p H H1):cD CH C CL H1 ph hl hv st∧mQ Ts H1:=by
 obtain⟨dx,hp⟩:=I.calls.at_;exact⟨(I.S9 b).same RW,I.tabs.but b hp trivial fun φ z=>by cases z⟩
theorem oF.glB(I:oF K CC CH C CL Ts H ph p a hl g hv st ns i n c t)(b:But p H H1):∃ xs,H1 g=some (.lst xs):=by
 obtain⟨dx,hp⟩:=I.calls.at_;obtain⟨xs,hg⟩:=I.gl;exact⟨xs,b _ _ hg fun z=>by rw[z,hp] at hg;cases hg⟩
theorem HE(b:But p H H1)(C1:cU K CC H1 p a ns i1)(fr:uG H1 q):uG H q:=fun o e=>by
 by_cases z:q=p
 ·obtain⟨dx,hp⟩:=C1.at_;obtain⟨ps,h⟩:=fr _ (by rw[z];exact hp);cases h
 ·exact fr o (b q o e z)
theorem fin_same{l:List V}{al:List Int}{Q:VK}(I:oF K CC CH C CL Ts H ph p a hl g hv st ns i n c t)(k:∀ H' q i' hv',BR K CC CH C CL Ts H H' ph p a hl g hv' st ns i' c t q→Q (.ref q) H')(b:But p H H1)(C1:cU K CC H1 p a ns i1)(hd:ns.drop i1=t)(sm:pB H1 H2)(tb:mQ Ts H2)(fr:uG H1 q)(hq:H2 q=some (.lst l))(e:BrainNeutral.step st c=(st,al))(el:al.map V.int=l):Q (.ref q) H2:=by
 refine k H2 q i1 hv ⟨fun c o e n n1 _=>sm _ _ (b c o e n1) n,C1.smt sm,hd,?_,tb,HE b C1 fr,?_⟩
 ·rw[e];exact(I.S9 b).smt (QR sm)
 ·rw[e,hq,←el]
theorem d8{l:List V}{al:List Int}{Q:VK}(I:oF K CC CH C CL Ts H ph p a hl g hv st ns i n c t)(k:∀ H' q i' hv',BR K CC CH C CL Ts H H' ph p a hl g hv' st ns i' c t q→Q (.ref q) H')(b:But p H H1)(C1:cU K CC H1 p a ns i1)(hd:ns.drop i1=t)(sm:pB H1 H2)(tb:mQ Ts H2)(e:BrainNeutral.step st c=(st,al))(el:al.map V.int=l):∀ r,H2 r=none→Q (.ref r) (upd H2 r (.lst l)):=fun r hr=>
 fin_same I k b C1 hd (sm.trans (.of (a9 hr))) (tb.same (a9 hr)) (rX sm hr) a7 e el
theorem fL{x:Int}{r:List Int}{Q:VK}(c:cU K CC H p a ns i)(hd:ns.drop i=x::r)(k:∀ H',But p H H'→cU K CC H' p a ns (i+1)→ns.drop (i+1)=r→Q (.int x) H'):Mth CC "take_number" (.ref p) H (b9 K CC [V.ref p] H Q E0):=by
 obtain⟨dx,h⟩:=c.at_;exact⟨p,dx,_,rfl,h,AN a i (by decide +kernel) (by decide +kernel),p,a,ns,i,x,r,rfl,c,hd,k⟩
theorem jG{x r:List Int}{Q:VK}(c:cU K CC H p a ns i)(hd:PyFlat.row (ns.drop i)=some (x,r))(k:∀ H' q i',But p H H'→cU K CC H' p a ns i'→ns.drop i'=r→H q=none→H' q=some (.lst (x.map V.int))→Q (.ref q) H'):
  Mth CC "take_row" (.ref p) H (cN K CC [V.ref p] H Q E0):=by
 obtain⟨dx,h⟩:=c.at_;exact⟨p,dx,_,rfl,h,AN a i (by decide +kernel) (by decide +kernel),p,a,ns,i,x,r,rfl,c,hd,k⟩
theorem iR{H3:Hp}{ab:Addr}{s:Nat}{b:List Nat}{x y:V}(h1:8<s→∃ q,x= .ref q∧H2 q=none∧H3 q=some (.lst [.int (-20)]))(h2:s≤8→aDj C CL H2 H3 ab s hv x y (Br.judge st.nets s (BM.bytesOf b))):
  (∃ q al,x= .ref q∧H2 q=none∧H3 q=some (.lst (al.map V.int))∧(∀ f,told (Brain.ofNet st s (BM.bytesOf b) f)=al)∧(s≤8→∃ e,Br.judge st.nets s (BM.bytesOf b)= .error e∧al=[e.1,(e.2:Nat)])) ∨
  (s≤8∧∃ N pn bl,x= .non∧y= .ref pn∧Br.judge st.nets s (BM.bytesOf b)= .ok N∧kT C CL H3 pn ab bl N∧(H3 bl=some (.lst (hv.take s))∧kT C CL (tG H2 H3) pn ab bl N∧H2 bl=none)∧∀ f,Brain.ofNet st s (BM.bytesOf b) f=f N):=by
 by_cases c:8<s
 ·refine aC (h1 c) fun q e1 e2 e3=>?_;refine .inl ⟨q,[-20],e1,e2,e3,fun f=>?_,fun h=>absurd h (by omega)⟩;unfold Brain.ofNet Br.SLOTS;rw[if_pos c,eD]
 ·have h2':=h2 (by omega)
  cases ej:Br.judge st.nets s (BM.bytesOf b) with
  | error e=>
   rw[ej] at h2';refine aC h2' fun q e1 e2 e3=>?_;refine .inl ⟨q,[e.1,(e.2:Nat)],e1,e2,e3,fun f=>?_,fun _=>⟨e,rfl,rfl⟩⟩;unfold Brain.ofNet Br.SLOTS;rw[if_neg c,ej];exact qK e
  | ok N=>
   rw[ej] at h2';(refine aD h2' fun e1 bO=>?_;refine aN bO fun pn bl e2 e3 e4 e5=>?_);refine .inr ⟨by omega,N,pn,bl,e1,e2,rfl,e3.smt (.of V9),⟨e5,e3,e4⟩,fun f=>?_⟩;unfold Brain.ofNet Br.SLOTS;rw[if_neg c,ej]
theorem pA{l:List Int}{m:Nat}(h:(decide (0≤l.length)&&decide (l.length≤m)&&l.all (PyInside.within 0 255))=true):∃ b:List Nat,l=b.map (fun (n:Nat)=>(n:Int))∧b.length≤m∧∀ x∈b,x<256:=by
 rw[aFg,aFg,decide_eq_true_iff,decide_eq_true_iff] at h;(refine aA (tE h.2) fun b bO hb=>?_;subst bO);refine⟨b,rfl,by have:=h.1.2;rw[aFd] at this;exact this,fun x hx=>by have:=hb x hx;omega⟩
end
section
variable{P:Program}{w:World}{K:W.Frag}{mg:Str→Option Value}{base:Heap}{CC CH C CL:Addr}{Ts:TL}
theorem FH(D:Def K mg "call_judge" wE ["house","calls"])(bE:cV P w K mg base CC "take_number" ["self"] 1 (b9 K CC))(bR:cV P w K mg base CC "take_row" ["self"] 2 (cN K CC))(dE:Own P w K mg base "examined" ["house","s","net"] 9 (gK CH C CL)):
  Own P w K mg base "call_judge" ["house","calls"] 10 (gD K CC CH C CL Ts 8):=by
 refine D.own nZ (fun vs H Q E h=>eK h) (fun f cdv A outer s0 H vs Q Ex hr h=>?_)
 ·obtain⟨ph,p,a,hl,g,hv,st,ns,i,c,t,rfl,I,kq⟩:=h;(refine aJ (BM.kJ (by decide) I.call) fun x s1 r1 e1 e2 bO=>?_;subst bO);have hb':(PyInside.within 0 4294967295 x&&true&&(decide (0≤r1.length)&&decide (r1.length≤16400)&&r1.all (PyInside.within 0 255)&&true))=true:=I.bound;rw[aFm,aFm,aFg] at hb';(refine aA (cI hb'.1) fun s cA hs=>?_;subst cA);(refine aC (pA hb'.2) fun b dF xZ xE=>?_;subst dF);have est:BrainNeutral.step st [[8,(s:Int)],b.map fun (n:Nat)=>(n:Int)]=(st,told (Brain.ofNet st s (BM.bytesOf b) fun _=>Brain.tells [])):=by
   rw[f9 (x:= .judge s (BM.bytesOf b)) (by rw[←BM.jW];rfl)];rfl
  refine⟨_,(aZ (bK (i:=2) nZ.nd rfl (Or.inl rfl) (cJ bE hr (by decide) (pv 1)))
   (aZ (bK (i:=3) nZ.nd rfl (Or.inl rfl) (bN dE hr (by decide) rfl (aY (pv 0) (aY (pv 2) (aY (cJ bR hr (by decide) (pv 1)) a6)))))
   (bA (bI (iE (bU (uX (cC dS (pv 3) a8 (fun _ _=>rfl)))) (cG (aY a8 a6)) (cC dS (pv 3) a8 (fun _ _=>rfl))))))),?_⟩
  walk_at"0";refine fL I.calls e1 fun H1 b1 C1 d1=>?_;refine jG C1 (by rw[d1];exact e2) fun H2 ra i2 b2 C2 d2 ZW hra=>?_;rw[dJ] at hra;have qE:=b1.trans b2;obtain⟨HA2,T2⟩:=I.mid qE;refine⟨ph,hl,ra,hv,st,s,b,rfl,HA2,hra,xE,by omega,fun H3 r x y sm xD h1 h2=>?_⟩;have T3:=T2.same sm;rcases iR h1 h2 with ⟨q,al,rfl,hq2,PR,hal,_⟩ | ⟨PQ,N,pn,bl,rfl,rfl,hj,hN,TZ,hof⟩
  ·walk_at"0";refine⟨_,gF.of xD,V.ref q,rfl,?_⟩;rw[if_neg (fun z=>by cases aFf z)];refine⟨_,gF.of xD,V.ref q,rfl,?_⟩;exact fin_same I kq qE C2 d2 (.of sm) T3 (fun o e=>by rw[hq2] at e;cases e) PR est (by rw[hal])
  ·walk_at"0";refine⟨_,gF.of xD,V.non,rfl,?_⟩;rw[if_pos (by rfl)];refine⟨by decide,d8 I kq qE C2 d2 (.of sm) T3 est ?_⟩;rw[hof,gG];rfl
theorem IV(D:Def K mg "call_tell" zZ ["house","calls"])(T:tJ K mg)(TW:hU K C)(bE:cV P w K mg base CC "take_number" ["self"] 1 (b9 K CC))(bR:cV P w K mg base CC "take_row" ["self"] 2 (cN K CC))(dE:Own P w K mg base "examined" ["house","s","net"] 9 (gK CH C CL)):
  Own P w K mg base "call_tell" ["house","calls"] 10 (gD K CC CH C CL Ts 9):=by
 refine D.own lG (fun vs H Q E h=>eK h) (fun f cdv A outer s0 H vs Q Ex hr h=>?_)
 ·obtain⟨ph,p,a,hl,g,hv,st,ns,i,c,t,rfl,I,kq⟩:=h;(refine aJ (BM.kJ (by decide) I.call) fun x s1 r1 e1 e2 bO=>?_;subst bO);have hb':(PyInside.within 0 4294967295 x&&true&&(decide (0≤r1.length)&&decide (r1.length≤16400)&&r1.all (PyInside.within 0 255)&&true))=true:=I.bound;rw[aFm,aFm,aFg] at hb';(refine aA (cI hb'.1) fun s cA hs=>?_;subst cA);(refine aC (pA hb'.2) fun b dF xZ xE=>?_;subst dF);have est:BrainNeutral.step st [[9,(s:Int)],b.map fun (n:Nat)=>(n:Int)]=(st,told (Brain.ofNet st s (BM.bytesOf b) fun N=>Brain.tells [N.width,N.widthOut,N.need,N.count,N.work])):=by
   rw[f9 (x:= .tell s (BM.bytesOf b)) (by rw[←BM.jW];rfl)];rfl
  refine⟨_,(aZ (bK (i:=2) lG.nd rfl (Or.inl rfl) (cJ bE hr (by decide) (pv 1)))
   (aZ (bK (i:=3) lG.nd rfl (Or.inl rfl) (bN dE hr (by decide) rfl (aY (pv 0) (aY (pv 2) (aY (cJ bR hr (by decide) (pv 1)) a6)))))
   (aZ (cE (bU (pM (cC dS (pv 3) a8 (fun _ _=>rfl)))) (bA (bI (cC dS (pv 3) a8 (fun _ _=>rfl)))) bT)
   (aZ (bK (i:=4) lG.nd rfl (Or.inl rfl) (cC dS (pv 3) a8 (fun _ _=>rfl)))
   (bA (bI (cG (aY a8 (aY (bB (pv 4) rfl) (aY (bB (pv 4) rfl) (aY (bB (pv 4) rfl) (aY (bY bQ (by rfl) T.len PySem.boot_len (aY (bB (pv 4) rfl) a6)) (aY (bB (pv 4) rfl) a6))))))))))))),?_⟩
  walk_at"0";refine fL I.calls e1 fun H1 b1 C1 d1=>?_;refine jG C1 (by rw[d1];exact e2) fun H2 ra i2 b2 C2 d2 ZW hra=>?_;rw[dJ] at hra;have qE:=b1.trans b2;obtain⟨HA2,T2⟩:=I.mid qE;refine⟨ph,hl,ra,hv,st,s,b,rfl,HA2,hra,xE,by omega,fun H3 r x y sm xD h1 h2=>?_⟩;have T3:=T2.same sm;rcases iR h1 h2 with ⟨q,al,rfl,hq2,PR,hal,_⟩ | ⟨PQ,N,pn,bl,rfl,rfl,hj,hN,TZ,hof⟩
  ·walk_at"0";refine⟨_,gF.of xD,V.ref q,rfl,?_⟩;rw[if_pos (by rfl)];refine⟨_,gF.of xD,V.ref q,rfl,?_⟩;exact fin_same I kq qE C2 d2 (.of sm) T3 (fun o e=>by rw[hq2] at e;cases e) PR est (by rw[hal])
  ·walk_at"0";refine⟨_,gF.of xD,V.non,rfl,?_⟩;rw[if_neg (by decide)];(refine aI hN fun dn un hn n1 n2 n3 n4 eX=>?_;refine aF eX fun n5 n6 hE=>?_;refine aA hE fun ys n7 n8=>?_);have Z:=kN hn TW;refine⟨_,gF.of xD,V.ref pn,rfl,?_⟩;walk_at"n";refine⟨_,.inl (cT.of n7),by decide,d8 I kq qE C2 d2 (.of sm) T3 est ?_⟩;rw[hof,gG,n3,n4,n5,n6,n8.1];rfl
theorem FG(D:Def K mg "call_layer" wD ["house","calls"])(T:tJ K mg)(TW:hU K C)(TL:mW K CL)(bE:cV P w K mg base CC "take_number" ["self"] 1 (b9 K CC))(bR:cV P w K mg base CC "take_row" ["self"] 2 (cN K CC))(dE:Own P w K mg base "examined" ["house","s","net"] 9 (gK CH C CL)):
  Own P w K mg base "call_layer" ["house","calls"] 10 (gD K CC CH C CL Ts 10):=by
 refine D.own iD (fun vs H Q E h=>eK h) (fun f cdv A outer s0 H vs Q Ex hr h=>?_)
 ·obtain⟨ph,p,a,hl,g,hv,st,ns,i,c,t,rfl,I,kq⟩:=h;(refine aE (BM.kI (by decide) I.call) fun x x2 s1 bO=>?_;refine aC bO fun r1 e1 e2 cA=>?_;subst cA);have hb':((PyInside.within 0 4294967295 x&&(PyInside.within 0 4294967295 x2&&true))&&(decide (0≤r1.length)&&decide (r1.length≤16400)&&r1.all (PyInside.within 0 255)&&true))=true:=I.bound;rw[aFm,aFm,aFg,aFg] at hb';(refine aA (cI hb'.1.1) fun s dF hs=>?_;subst dF);(refine aA (cI hb'.1.2) fun j eX hj0=>?_;subst eX);(refine aC (pA hb'.2) fun b hE xZ xE=>?_;subst hE);have est:BrainNeutral.step st [[10,(s:Int),(j:Int)],b.map fun (n:Nat)=>(n:Int)]=(st,told (Brain.ofNet st s (BM.bytesOf b) fun N=>match N.tells j with | none=>Brain.says (-21) | some l=>Brain.tells l)):=by
   rw[f9 (x:= .layer s j (BM.bytesOf b)) (by rw[←BM.jW];rfl)];rfl
  refine⟨_,(aZ (bK (i:=2) iD.nd rfl (Or.inl rfl) (cJ bE hr (by decide) (pv 1)))
   (aZ (bK (i:=3) iD.nd rfl (Or.inl rfl) (cJ bE hr (by decide) (pv 1)))
   (aZ (bK (i:=4) iD.nd rfl (Or.inl rfl) (bN dE hr (by decide) rfl (aY (pv 0) (aY (pv 2) (aY (cJ bR hr (by decide) (pv 1)) a6)))))
   (aZ (cE (bU (pM (cC dS (pv 4) a8 (fun _ _=>rfl)))) (bA (bI (cC dS (pv 4) a8 (fun _ _=>rfl)))) bT)
   (aZ (cE (bU (LP (pv 3) (bY bQ (by rfl) T.len PySem.boot_len (aY (bB (cC dS (pv 4) a8 (fun _ _=>rfl)) rfl) a6)))) (bA (bI (cG (aY (cH rfl T.NOT_AS_TOLD) a6)))) bT)
   (aZ (bK (i:=5) iD.nd rfl (Or.inl rfl) (cC bZ (bB (cC dS (pv 4) a8 (fun _ _=>rfl)) rfl) (pv 3) (fun _ _=>rfl)))
   (bA (bI (cG (aY a8 (aY (bB (pv 5) rfl) (aY (bB (pv 5) rfl) (aY (bB (pv 5) rfl) (aY (bB (pv 5) rfl) (aY (bB (pv 5) rfl) a6))))))))))))))),?_⟩
  walk_at"0";refine fL I.calls e1 fun H0 b0 C0 d0=>fL C0 d0 fun H1 b1 C1 d1=>?_;refine jG C1 (by rw[d1];exact e2) fun H2 ra i2 b2 C2 d2 ZW hra=>?_;rw[dJ] at hra;have qE:=(b0.trans b1).trans b2;obtain⟨HA2,T2⟩:=I.mid qE;refine⟨ph,hl,ra,hv,st,s,b,rfl,HA2,hra,xE,by omega,fun H3 r x y sm xD h1 h2=>?_⟩;have T3:=T2.same sm;rcases iR h1 h2 with ⟨q,al,rfl,hq2,PR,hal,_⟩ | ⟨PQ,N,pn,bl,rfl,rfl,hj,hN,TZ,hof⟩
  ·walk_at"0";refine⟨_,gF.of xD,V.ref q,rfl,?_⟩;rw[if_pos (by rfl)];refine⟨_,gF.of xD,V.ref q,rfl,?_⟩;exact fin_same I kq qE C2 d2 (.of sm) T3 (fun o e=>by rw[hq2] at e;cases e) PR est (by rw[hal])
  ·walk_at"0";refine⟨_,gF.of xD,V.non,rfl,?_⟩;rw[if_neg (by decide)];(refine aI hN fun dn un hn n1 n2 n3 n4 p9=>?_;refine aF p9 fun n5 n6 AS=>?_;refine aA AS fun ys n7 n8=>?_);have Z:=kN hn TW;refine⟨_,gF.of xD,V.ref pn,rfl,?_⟩;walk_at"n";refine⟨_,.inl (cT.of n7),cZ (fun c=>?_) (fun c=>?_)⟩
   ·have c':=aFf c;refine⟨by decide,d8 I kq qE C2 d2 (.of sm) T3 est ?_⟩;rw[hof];unfold Br.Net.tells;rw[List.getElem?_eq_none (by rw[←n8.1];omega)];show (told (Brain.says (-21))).map V.int=_;rw[eD];rfl
   ·have hlt:j<N.layers.length:=by
     rw[←n8.1];refine aFA fun z=>c (aFc ?_);omega
    have ht:N.layers[j]?=some N.layers[j]:=aFv hlt;generalize N.layers[j]=tt at ht;refine aA (n8.2 j tt ht) fun qy hqy LA=>?_;(refine aI LA.at_ fun dq u hq u1 u2 u3 u4 KJ=>?_;refine aD KJ fun u5 _=>?_);have Y:=iW hq TL;refine⟨_,gF.of xD,V.ref pn,rfl,?_⟩;walk_at"n";refine⟨_,cT.of n7,V.ref qy,at_of (j:=j) rfl hqy,?_⟩;walk_at"v";refine⟨by decide,d8 I kq qE C2 d2 (.of sm) T3 est ?_⟩;rw[hof];unfold Br.Net.tells;rw[ht];show (told (Brain.tells [tt.at_,tt.kind,tt.before.w,(tt.before.next tt.layer).w,tt.before.aside.length])).map V.int=_;rw[gG,u1,u2,u3,u4,u5];rfl
end
local macro_rules | `(tactic| walk_at"0")=>sm true ([]) (mV++mL++lK++eS++fO++eM)
local macro_rules | `(tactic| walk_at"n")=>sm true (fL5) (mV++mL++lK++eS++fO++eM)
local macro_rules | `(tactic| walk_at"z")=>sm true (fL5++fL6) (mV++mL++lK++eS++fO++eM)
abbrev z8:Stmt:=top 107
theorem eZ:bJ ["house","calls","s","net_a","net_b","a","b","net","whole"] ["house","calls"] (bC z8):=bV (by kernel_rfl)
abbrev z7:Stmt:=top 108
theorem lI:bJ ["house","calls","s","net","found"] ["house","calls"] (bC z7):=bV (by kernel_rfl)
abbrev z9:Stmt:=top 109
theorem vV:bJ ["house","calls","s"] ["house","calls"] (bC z9):=bV (by kernel_rfl)
abbrev z6:Stmt:=top 110
theorem vU:bJ ["house","calls","kept"] ["house","calls"] (bC z6):=bV (by kernel_rfl)
theorem GZ{Hs:Br.House}{s:Nat}{b:List Nat}{N:Br.Net}(h:Br.judge Hs s (BM.bytesOf b)= .ok N):6≤b.length∧b.length≤16384:=by
 unfold Br.judge Br.LARGEST at h;rw[BM.dY] at h
 split at h
 ·cases h
 ·rename_i c;exact⟨by refine aFA fun z=>c (.inl (by lia)),by refine aFA fun z=>c (.inr (.inl (by lia)))⟩
section
variable{CH C CL:Addr}{H:Hp}{ph hl:Addr}{hv:List V}{st:Brain.State}{s:Nat}
theorem cD.aAx(HA:cD CH C CL H ph hl hv st){bl:Addr}{k:Nat}(hk:k<8)(h:H bl=some (.lst (hv.take k))):bl≠hl:=fun z=>by
 rw[z,HA.nl] at h;injection h with h
 injection h with h
 have:=congrArg List.length h;rw[aFq,HA.nets.len] at this;lia
theorem cD.LE(HA:cD CH C CL H ph hl hv st){hv':List V}{b:Addr}{l:List Nat}(e:H b=some (.lst (nums l))):(upd H hl (.lst hv')) b=some (.lst (nums l)):=by
 rw[bF fun z=>?_]
 ·exact e
 ·rw[z,HA.nl] at e;injection e with e
  injection e with e
  exact HA.Q9 l e.symm
theorem cD.BD(HA:cD CH C CL H ph hl hv st){hv':List V}{b C' dx:Addr}{fs:List (Str×V)}(e:H b=some (.ins C' dx fs)):(upd H hl (.lst hv')) b=some (.ins C' dx fs):=by
 rw[bF fun z=>?_]
 ·exact e
 ·rw[z,HA.nl] at e;cases e
theorem cD.put{hv':List V}{st':Brain.State}(HA:cD CH C CL H ph hl hv st)(hs:s≤8)(h8:hv'.length=8)(ht:hv'.take s=hv.take s)(hb:∀ k,k<s→Br.kept st'.nets k=Br.kept st.nets k)(hbb:∀ k,k<s→st'.bytes.getD k []=st.bytes.getD k [])
  (ab:∀ k,s≤k→k<8→(Br.kept st'.nets k=none∧hv'[k]?=some .non)∨∃ N q a bl b,Br.kept st'.nets k=some N∧hv'[k]?=some (.ref q)∧kT C CL H q a bl N∧bl≠hl∧H bl=some (.lst (hv'.take k))∧H a=some (.lst (nums b))∧(∀ x∈b,x<256)∧b.length≤16400∧st'.bytes.getD k []=BM.bytesOf b)
  (hi:BM.lO st'):cD CH C CL (upd H hl (.lst hv')) ph hl hv' st':=by
 obtain⟨dx,hp⟩:=HA.at_;have gk:∀ k,k<s→hv'[k]?=hv[k]?:=fun k hk=>by
  have:(hv'.take s)[k]?=(hv.take s)[k]?:=by rw[ht]
  rw[aFP hk,aFP hk] at this;exact this
 have tk:∀ k,k≤s→hv'.take k=hv.take k:=fun k hk=>by
  have:=congrArg (List.take k) ht;rw[List.take_take,List.take_take,Nat.min_eq_left hk] at this;exact this
 have lt8:∀ k N,Br.kept st'.nets k=some N→k<8:=fun k N e=>by
  have:=BM.BH e;rw[hi.len] at this;exact this
 refine⟨⟨dx,HA.BD hp⟩,a7,⟨h8,fun k N e=>?_,fun k hk e=>?_⟩,fun k N e=>?_,hi⟩
 ·by_cases c:k<s
  ·rw[hb k c] at e;refine aJ (HA.nets.at_ k N e) fun q a bl h1 h2 h3=>?_;refine⟨q,a,bl,by rw[gk k c];exact h1,HA.RA h2,?_⟩;rw[bF (HA.aAx (by lia) h3),tk k (by lia)];exact h3
  ·rcases ab k (by lia) (lt8 k N e) with ⟨z,_⟩ | ⟨N',q,a,bl,b,h1,h2,h3,h4,h5,_⟩
   ·rw[z] at e;cases e
   ·rw[h1] at e;cases e;exact⟨q,a,bl,h2,HA.RA h3,by rw[bF h4];exact h5⟩
 ·by_cases c:k<s
  ·rw[hb k c] at e;rw[gk k c];exact HA.nets.Y8 k hk e
  ·rcases ab k (by lia) hk with ⟨_,z⟩ | ⟨N',q,a,bl,b,h1,_⟩
   ·exact z
   ·rw[h1] at e;cases e
 ·by_cases c:k<s
  ·rw[hb k c] at e;(refine aE (HA.bys k N e) fun q dq u bO=>?_;refine aU bO fun b h1 h2 h3 h4 h5 h6=>?_);exact⟨q,dq,u,b,by rw[gk k c];exact h1,HA.BD h2,HA.LE h3,h4,h5,by rw[hbb k c];exact h6⟩
  ·rcases ab k (by lia) (lt8 k N e) with ⟨z,_⟩ | ⟨N',q,a,bl,b,h1,h2,h3,h4,h5,h6,h7,h9,h10⟩
   ·rw[z] at e;cases e
   ·refine aB h3 fun dq u g0 g1 _=>?_;exact⟨q,dq,u,b,h2,HA.BD g0,HA.LE (by rw[g1];exact h6),h7,h9,h10⟩
theorem BZ{hv:List V}(h8:hv.length=8)(hs:s≤8)(l:List V):(hv.take s++l).take s=hv.take s:=by
 have l1:(hv.take s).length=s:=by rw[aFq];lia
 rw[List.take_append_of_le_length (by lia),List.take_take,Nat.min_self]
theorem cD.cleared(HA:cD CH C CL H ph hl hv st)(hs:s≤8):cD CH C CL (upd H hl (.lst (hv.take s++List.replicate (8-s) V.non))) ph hl (hv.take s++List.replicate (8-s) V.non) (Brain.emptied st s):=by
 have h8:=HA.nets.len;have l1:(hv.take s).length=s:=by rw[aFq];lia
 refine HA.put hs ?_ (BZ h8 hs _) (fun k hk=>?_) (fun k hk=>?_) (fun k hk hk8=> .inl ⟨?_,?_⟩) (BM.vG HA.is_ s)
 ·rw[aFb,aFL];lia
 ·rw[BM.fB,if_pos hk]
 ·rw[BM.oA,if_pos hk]
 ·rw[BM.fB,if_neg (by lia)]
 ·rw[aFu (by lia),l1,List.getElem?_replicate,if_pos (by lia)]
theorem cD.WL{pn ra bl:Addr}{b:List Nat}{N:Br.Net}(HA:cD CH C CL H ph hl hv st)(hs:s<8)(hj:Br.judge st.nets s (BM.bytesOf b)= .ok N)(hN:kT C CL H pn ra bl N)(xZ:H bl=some (.lst (hv.take s)))(hra:H ra=some (.lst (nums b)))(xE:∀ x∈b,x<256)(hlen:b.length≤16400):
  cD CH C CL (upd H hl (.lst ((hv.take s++List.replicate (8-s) V.non).set s (.ref pn)))) ph hl ((hv.take s++List.replicate (8-s) V.non).set s (.ref pn)) ⟨(Brain.emptied st s).nets.set s (some N),(Brain.emptied st s).bytes.set s (BM.bytesOf b)⟩:=by
 have h8:=HA.nets.len;have l1:(hv.take s).length=s:=by rw[aFq];lia
 have l2:(hv.take s++List.replicate (8-s) V.non).length=8:=by rw[aFb,aFL];lia
 have E:=BM.vG HA.is_ s;have ht:((hv.take s++List.replicate (8-s) V.non).set s (.ref pn)).take s=hv.take s:=by
  rw[List.take_set_of_le (by lia)];exact BZ h8 (by lia) _
 have kp:∀ k,Br.kept ((Brain.emptied st s).nets.set s (some N)) k=if k=s then some N else Br.kept (Brain.emptied st s).nets k:=fun k=>by
  unfold Br.kept;rw[aFe,List.getElem?_set,aFe];by_cases c:s=k
  ·subst c;rw[if_pos rfl,if_pos rfl,if_pos (by rw[E.len];exact hs)];rfl
  ·rw[if_neg c,if_neg (fun q=>c q.symm)]
 refine HA.put (s:=s) (by lia) (by rw[List.length_set];exact l2) ht (fun k hk=>?_) (fun k hk=>?_) (fun k hk hk8=>?_) (BM.ZN HA.is_ hs hj)
 ·show Br.kept ((Brain.emptied st s).nets.set s (some N)) k=_;rw[kp,if_neg (by lia),BM.fB,if_pos hk]
 ·show ((Brain.emptied st s).bytes.set s (BM.bytesOf b)).getD k []=_;rw[aFe,List.getElem?_set,if_neg (by lia),←aFe,BM.oA,if_pos hk]
 ·by_cases c:k=s
  ·subst c;refine .inr ⟨N,pn,ra,bl,b,?_,?_,hN,HA.aAx hs xZ,?_,hra,xE,hlen,?_⟩
   ·show Br.kept ((Brain.emptied st k).nets.set k (some N)) k=_;rw[kp,if_pos rfl]
   ·rw[List.getElem?_set,if_pos rfl,if_pos (by lia)]
   ·rw[ht];exact xZ
   ·show ((Brain.emptied st k).bytes.set k (BM.bytesOf b)).getD k []=_;rw[aFe,List.getElem?_set,if_pos rfl,if_pos (by rw[E.Z7];exact hs)];rfl
  ·refine .inl ⟨?_,?_⟩
   ·show Br.kept ((Brain.emptied st s).nets.set s (some N)) k=_;rw[kp,if_neg c,BM.fB,if_neg (by lia)]
   ·rw[List.getElem?_set,if_neg (fun z=>c z.symm),aFu (by lia),l1,List.getElem?_replicate,if_pos (by lia)]
end
section
variable{K:W.Frag}{CC CH C CL:Addr}{Ts:TL}{H H1 H2:Hp}{ph p a hl g q:Addr}{hv hv':List V}{st st':Brain.State}{ns:List Int}{i i1:Nat}{n:Int}{c:List (List Int)}{t:List Int}
theorem RS{Q:VK}(I:oF K CC CH C CL Ts H ph p a hl g hv st ns i n c t)(k:∀ H' q i' hv',BR K CC CH C CL Ts H H' ph p a hl g hv' st ns i' c t q→Q (.ref q) H')(b:But p H H1)(C1:cU K CC H1 p a ns i1)(hd:ns.drop i1=t)(sm:pB H1 H2)(tb:mQ Ts H2)(hh:H2 hl=some (.lst hv))(HA:cD CH C CL (upd (del H2 g) hl (.lst hv')) ph hl hv' st')(e:BrainNeutral.step st c=(st',[0])):
  ∀ r,(upd H2 hl (.lst hv')) r=none→Q (.ref r) (upd (upd H2 hl (.lst hv')) r (.lst [V.int 0])):=fun r hr=>by
 have nr:r≠hl:=fun z=>by rw[z,a7] at hr;cases hr
 have r0:H2 r=none:=by rw[bF nr] at hr;exact hr
 have s1:=a9 (o:= .lst [V.int 0]) hr;obtain⟨dx,hp⟩:=(C1.smt sm).at_;have np:p≠hl:=fun z=>by rw[z,hh] at hp;cases hp
 refine k _ r i1 hv' ⟨fun c o e n n1 n2=>s1 _ _ (by rw[bF n2];exact sm _ _ (b c o e n1) n),?_,hd,?_,?_,HE b C1 (rX sm r0),?_⟩
 ·have C2:=C1.smt sm;refine cU.same ⟨⟨dx,by rw[bF np];exact hp⟩,?_,C2.ne⟩ s1;rcases I.nah with nah | nah
  case inr=>exact nah _
  refine N9 (fun b o e eb _=>?_) C2.sq;rw[bF (by rw[eb];exact nah)];exact e
 ·rw[e];have nhg:hl≠g:=fun z=>by
   have:=(I.S9 b).nl;rw[z,fN] at this;cases this
  rw[←X9 nhg] at HA;refine HA.same fun x o e=>?_;have nb:x≠g:=fun z=>by rw[z,fN] at e;cases e
  rw[dU nb] at e ⊢;exact s1 _ _ e
 ·exact(tb.but dW hh trivial fun φ z=>by cases z).same s1
 ·rw[e,a7];rfl
end
section
variable{P:Program}{w:World}{K:W.Frag}{mg:Str→Option Value}{base:Heap}{CC CH C CL:Addr}{Ts:TL}
theorem JA(D:Def K mg "call_drop" z9 ["house","calls"])(T:tJ K mg)(TC:sF K CH)(bE:cV P w K mg base CC "take_number" ["self"] 1 (b9 K CC))(d7:cV P w K mg base CH "kept_at" ["self","s"] 1 (iO CH C CL))(gZ:cV P w K mg base CH "clear_from" ["self","s"] 1 (j9 CH C CL)):
  Own P w K mg base "call_drop" ["house","calls"] 10 (gD K CC CH C CL Ts 13):=by
 refine(D.own (k:=1) vV (fun vs H Q E h=>eK h) (fun f cdv A outer s0 H vs Q Ex hr h=>?_)).mono (by decide)
 ·obtain⟨ph,p,a,hl,g,hv,st,ns,i,c,t,rfl,I,kq⟩:=h;(refine aA (BM.BL (by decide) I.call) fun x e1 bO=>?_;subst bO);have hb':(PyInside.within 0 4294967295 x&&true&&true)=true:=I.bound;rw[aFm,aFm] at hb';(refine aA (cI hb') fun s cA hs=>?_;subst cA);have est:BrainNeutral.step st [[13,(s:Int)]]=((Brain.step st (.drop s)).1,told (Brain.step st (.drop s)).2):=f9 (x:= .drop s) rfl st;refine⟨_,(aZ (bK (i:=2) vV.nd rfl (Or.inl rfl) (cJ bE hr (by decide) (pv 1)))
   (aZ (cE (bU (uX (oY d7 hr (by decide) (pv 0) (aY (pv 2) a6)))) (bA (bI (cG (aY (cH rfl T.NO_PLACE) a6)))) bT)
   (aZ (dA (oY gZ hr (by decide) (pv 0) (aY (pv 2) a6)))
   (bA (bI (cG (aY a8 a6))))))),?_⟩
  walk_at"0";refine fL I.calls e1 fun H1 b1 C1 d1=>?_;obtain⟨HA,T1⟩:=I.mid b1;obtain⟨dx,hp⟩:=HA.at_;walk_at"0";refine(iK hp (by rfl) _).mpr ⟨ph,hl,hv,st,s,rfl,HA,?_⟩;rcases HA.item s with ⟨ek,ev⟩ | ⟨N,q,a',bl,ek,PQ,_,ev,_⟩
  ·rw[ev];refine⟨by decide,d8 I kq b1 C1 d1 (pB.refl H1) T1 (al:=[-20]) ?_ rfl⟩;rw[est];show ((match Br.kept st.nets s with | none=>(st,Brain.says (-20)) | some _=>(Brain.emptied st s,Brain.tells [])).1,told (match Br.kept st.nets s with | none=>(st,Brain.says (-20)) | some _=>(Brain.emptied st s,Brain.tells [])).2)=_;rw[ek];show (st,told (Brain.says (-20)))=_;rw[eD]
  ·rw[ev];rw[if_neg (fun z=>by cases aFf z)];walk_at"0";refine(iK hp (by rfl) _).mpr ⟨ph,hl,hv,st,s,rfl,HA,by lia,?_⟩;walk_at"0";refine⟨by decide,?_⟩;refine RS I kq b1 C1 d1 (pB.refl H1) T1 HA.nl ((I.S9 b1).cleared (by lia)) ?_;rw[est];show ((match Br.kept st.nets s with | none=>(st,Brain.says (-20)) | some _=>(Brain.emptied st s,Brain.tells [])).1,told (match Br.kept st.nets s with | none=>(st,Brain.says (-20)) | some _=>(Brain.emptied st s,Brain.tells [])).2)=_;rw[ek];rfl
theorem IY(D:Def K mg "call_kept" z6 ["house","calls"])(T:tJ K mg)(TC:sF K CH)(TW:hU K C)(bE:cV P w K mg base CC "take_number" ["self"] 1 (b9 K CC))(d7:cV P w K mg base CH "kept_at" ["self","s"] 1 (iO CH C CL)):
  Own P w K mg base "call_kept" ["house","calls"] 10 (gD K CC CH C CL Ts 14):=by
 refine(D.own (k:=1) vU (fun vs H Q E h=>eK h) (fun f cdv A outer s0 H vs Q Ex hr h=>?_)).mono (by decide)
 ·obtain⟨ph,p,a,hl,g,hv,st,ns,i,c,t,rfl,I,kq⟩:=h;(refine aA (BM.BL (by decide) I.call) fun x e1 bO=>?_;subst bO);have hb':(PyInside.within 0 4294967295 x&&true&&true)=true:=I.bound;rw[aFm,aFm] at hb';(refine aA (cI hb') fun s cA hs=>?_;subst cA);have est:BrainNeutral.step st [[14,(s:Int)]]=(st,told (Brain.ofKept st s fun _=>Brain.gives (st.bytes.getD s []))):=f9 (x:= .kept s) rfl st;obtain⟨dx0,hp0⟩:=(I.house.same RW).at_;refine⟨_,(aZ (bK (i:=2) vU.nd rfl (Or.inl rfl) (oY d7 hr (by decide) (pv 0) (aY (cJ bE hr (by decide) (pv 1)) a6)))
   (aZ (cE (bU (uX (pv 2))) (bA (bI (cG (aY (cH rfl T.NO_PLACE) a6)))) bT)
   (bA (bI (bH jU (cG (aY a8 a6)) (bB (pv 2) rfl)))))),?_⟩
  walk_at"0";refine(iK hp0 (by rfl) _).mpr ?_;refine fL I.calls e1 fun H1 b1 C1 d1=>?_;obtain⟨HA,T1⟩:=I.mid b1;refine⟨ph,hl,hv,st,s,rfl,HA,?_⟩;rcases HA.item s with ⟨ek,ev⟩ | ⟨N,q,a',bl,ek,PQ,hat,ev,_⟩
  ·rw[ev];walk_at"0";refine⟨by decide,d8 I kq b1 C1 d1 (pB.refl H1) T1 (al:=[-20]) ?_ rfl⟩;rw[est];unfold Brain.ofKept;rw[ek];show (st,told (Brain.says (-20)))=_;rw[eD]
  ·rw[ev];walk_at"0";(refine aE (HA.bys s N ek) fun q' dq u dF=>?_;refine aU dF fun b h1 h2 h3 h4 h5 h6=>?_);rw[hat] at h1;cases h1;refine⟨by decide,fun z hz=>?_⟩;have sz:=a9 (o:= .lst [V.int 0]) hz;have Z:=kN (sz _ _ h2) TW;rw[Z.net];walk_at"0";refine⟨_,a7,_,sz _ _ h3,?_,d8 I kq b1 C1 d1 (.of sz) (T1.same sz) est ?_⟩
   ·rw[bM,sizeLine_eq];show 1+b.length≤_;lia
   ·unfold Brain.ofKept;rw[ek];dsimp only;rw[h6,BY h4,o7];rfl
theorem IZ(D:Def K mg "call_keep" z7 ["house","calls"])(T:tJ K mg)(TC:sF K CH)(bE:cV P w K mg base CC "take_number" ["self"] 1 (b9 K CC))(bR:cV P w K mg base CC "take_row" ["self"] 2 (cN K CC))(dE:Own P w K mg base "examined" ["house","s","net"] 9 (gK CH C CL))(gZ:cV P w K mg base CH "clear_from" ["self","s"] 1 (j9 CH C CL)):
  Own P w K mg base "call_keep" ["house","calls"] 10 (gD K CC CH C CL Ts 12):=by
 refine D.own lI (fun vs H Q E h=>eK h) (fun f cdv A outer s0 H vs Q Ex hr h=>?_)
 ·obtain⟨ph,p,a,hl,g,hv,st,ns,i,c,t,rfl,I,kq⟩:=h;(refine aJ (BM.kJ (by decide) I.call) fun x s1 r1 e1 e2 bO=>?_;subst bO);have hb':(PyInside.within 0 4294967295 x&&true&&(decide (0≤r1.length)&&decide (r1.length≤16400)&&r1.all (PyInside.within 0 255)&&true))=true:=I.bound;rw[aFm,aFm,aFg] at hb';(refine aA (cI hb'.1) fun s cA hs=>?_;subst cA);(refine aC (pA hb'.2) fun b dF xZ xE=>?_;subst dF);have est:BrainNeutral.step st [[12,(s:Int)],b.map fun (n:Nat)=>(n:Int)]=((Brain.step st (.keep s (BM.bytesOf b))).1,told (Brain.step st (.keep s (BM.bytesOf b))).2):=f9 (x:= .keep s (BM.bytesOf b)) (by rw[←BM.jW];rfl) st
  have ek:Brain.step st (.keep s (BM.bytesOf b))=if 8≤s then (st,Brain.says (-20)) else (match Br.judge st.nets s (BM.bytesOf b) with
   | .error e=>(st,Brain.faulty e)
   | .ok N=>(⟨(Brain.emptied st s).nets.set s (some N),(Brain.emptied st s).bytes.set s (BM.bytesOf b)⟩,Brain.tells [])):=rfl
  refine⟨_,(aZ (bK (i:=2) lI.nd rfl (Or.inl rfl) (cJ bE hr (by decide) (pv 1)))
   (aZ (bK (i:=3) lI.nd rfl (Or.inl rfl) (cJ bR hr (by decide) (pv 1)))
   (aZ (cE (bU (LP (pv 2) (cH rfl T.PLACES))) (bA (bI (cG (aY (cH rfl T.NO_PLACE) a6)))) bT)
   (aZ (bK (i:=4) lI.nd rfl (Or.inl rfl) (bN dE hr (by decide) rfl (aY (pv 0) (aY (pv 2) (aY (pv 3) a6)))))
   (aZ (cE (bU (pM (cC dS (pv 4) a8 (fun _ _=>rfl)))) (bA (bI (cC dS (pv 4) a8 (fun _ _=>rfl)))) bT)
   (aZ (dA (oY gZ hr (by decide) (pv 0) (aY (pv 2) a6)))
   (aZ (mD (cC dS (pv 4) a8 (fun _ _=>rfl)) (mE (bB (pv 0) rfl) (pv 2) set_list))
   (bA (bI (cG (aY a8 a6))))))))))),?_⟩
  walk_at"0";refine fL I.calls e1 fun H1 b1 C1 d1=>?_;walk_at"0";refine jG C1 (by rw[d1];exact e2) fun H2 ra i2 b2 C2 d2 ZW hra=>?_;rw[dJ] at hra;have qE:=b1.trans b2;obtain⟨HA2,T2⟩:=I.mid qE;walk_at"0";refine cZ (fun c=>?_) (fun c=>?_)
  ·have c':=aFf c;refine⟨by decide,d8 I kq qE C2 d2 (pB.refl H2) T2 (al:=[-20]) ?_ rfl⟩;rw[est,ek,if_pos (show 8≤s by lia)];show (st,told (Brain.says (-20)))=_;rw[eD]
  have PQ:s<8:=by
   refine aFA fun z=>c (aFc ?_);lia
  rw[if_neg (show ¬8≤s by lia)] at ek;walk_at"0";refine⟨ph,hl,ra,hv,st,s,b,rfl,HA2,hra,xE,by lia,fun H3 r x y sm xD h1 h2=>?_⟩;have T3:=T2.same sm;have HA3:=HA2.same sm;rcases iR h1 h2 with ⟨q,al,rfl,hq2,PR,hal,hje⟩ | ⟨_,N,pn,bl,rfl,rfl,hj,hN,TZ,hof⟩
  ·walk_at"0";refine⟨_,gF.of xD,V.ref q,rfl,?_⟩;rw[if_pos (by rfl)];refine⟨_,gF.of xD,V.ref q,rfl,?_⟩;refine aA (hje (by lia)) fun e he eal=>?_;refine fin_same I kq qE C2 d2 (.of sm) T3 (fun o e=>by rw[hq2] at e;cases e) PR (al:=al) ?_ rfl;rw[est,ek,he,eal];show (st,told (Brain.faulty e))=_;rw[qK]
  ·walk_at"0";refine⟨_,gF.of xD,V.non,rfl,?_⟩;rw[if_neg (by decide)];obtain⟨dx,hp⟩:=HA3.at_;walk_at"0";refine(iK hp (by rfl) _).mpr ⟨ph,hl,hv,st,s,rfl,HA3,by lia,?_⟩;have hh:=HA3.nl;have nr:r≠hl:=fun z=>by rw[z,hh] at xD;cases xD
   have hr4:(upd H3 hl (.lst (hv.take s++List.replicate (8-s) V.non))) r=some (.tup [V.non,V.ref pn]):=by rw[bF nr];exact xD
   walk_at"0";refine⟨_,gF.of hr4,V.ref pn,rfl,?_⟩;have F:=fun Q=>cQ (Q:=Q) (H:=upd H3 hl (.lst (hv.take s++List.replicate (8-s) V.non))) (HA3.BD hp) TC.cl TC.nets (v:= .ref hl) rfl;rw[F];walk_at"0";refine⟨_,a7,s,uC rfl ?_,?_⟩
   ·rw[aFb,aFq,aFL,HA3.nets.len];lia
   walk_at"0";refine⟨by decide,?_⟩;rw[dD];obtain⟨xs,hg2⟩:=I.glB qE;have HAd:=(I.S9 qE).smt (QR (.of sm));have ZA:Same (tG H2 H3) (del H3 g):=fun b o e=>by
    obtain⟨z1,z2⟩:=pQ e;rw[dU (fun z=>by rw[z,hg2] at z1;cases z1)];exact z2
   have ng:∀ b,H2 b=none→b≠g:=fun b hb z=>by rw[z,hg2] at hb;cases hb
   obtain⟨xs1,hg1⟩:=I.glB b1;have nra:ra≠g:=fun z=>by rw[z,hg1] at ZW;cases ZW
   refine RS I kq qE C2 d2 (.of sm) T3 hh (HAd.WL PQ hj (TZ.2.1.smt (.of ZA)) (by rw[dU (ng _ TZ.2.2)];exact TZ.1) (by rw[dU nra];exact sm _ _ hra) xE xZ) ?_;rw[est,ek,hj];rfl
theorem I0(D:Def K mg "call_join" z8 ["house","calls"])(T:tJ K mg)(TW:hU K C)(bE:cV P w K mg base CC "take_number" ["self"] 1 (b9 K CC))(bR:cV P w K mg base CC "take_row" ["self"] 2 (cN K CC))(dE:Own P w K mg base "examined" ["house","s","net"] 9 (gK CH C CL))(EQ:Own P w K mg base "joined" ["a","b"] 1 yG):
  Own P w K mg base "call_join" ["house","calls"] 10 (gD K CC CH C CL Ts 11):=by
 refine D.own eZ (fun vs H Q E h=>eK h) (fun f cdv A outer s0 H vs Q Ex hr h=>?_)
 ·obtain⟨ph,p,a,hl,g,hv,st,ns,i,c,t,rfl,I,kq⟩:=h;(refine aE (BM.xO (by decide) I.call) fun x s1 r1 bO=>?_;refine aN bO fun s2 r2 e1 e2 e3 cA=>?_;subst cA);have hb':(PyInside.within 0 4294967295 x&&true&&(decide (0≤r1.length)&&decide (r1.length≤16400)&&r1.all (PyInside.within 0 255)&&(decide (0≤r2.length)&&decide (r2.length≤16400)&&r2.all (PyInside.within 0 255)&&true)))=true:=I.bound;rw[aFm,aFm,aFg,aFg (decide (0≤r1.length)&&decide (r1.length≤16400)&&r1.all (PyInside.within 0 255))] at hb';(refine aA (cI hb'.1) fun s dF hs=>?_;subst dF);(refine aC (pA hb'.2.1) fun ba eX hla hya=>?_;subst eX);(refine aC (pA hb'.2.2) fun bb hE hlb hyb=>?_;subst hE)
  have est:BrainNeutral.step st [[11,(s:Int)],ba.map fun (n:Nat)=>(n:Int),bb.map fun (n:Nat)=>(n:Int)]=(st,told (Brain.ofNet st s (BM.bytesOf ba) fun A=>match Br.judge st.nets s (BM.bytesOf bb) with
    | .error e=>Brain.second e
    | .ok B=>if A.widthOut≠B.width then Brain.says (-21) else match Br.judge st.nets s (Br.joined (BM.bytesOf ba) (BM.bytesOf bb)) with
     | .error e=>Brain.faulty e
     | .ok _=>Brain.gives (Br.joined (BM.bytesOf ba) (BM.bytesOf bb)))):=by
   rw[f9 (x:= .join s (BM.bytesOf ba) (BM.bytesOf bb)) (by rw[←BM.jW,←BM.jW];rfl)];rfl
  rw[BM.TU] at est;refine⟨_,(aZ (bK (i:=2) eZ.nd rfl (Or.inl rfl) (cJ bE hr (by decide) (pv 1)))
   (aZ (bK (i:=3) eZ.nd rfl (Or.inl rfl) (cJ bR hr (by decide) (pv 1)))
   (aZ (bK (i:=4) eZ.nd rfl (Or.inl rfl) (cJ bR hr (by decide) (pv 1)))
   (aZ (bK (i:=5) eZ.nd rfl (Or.inl rfl) (bN dE hr (by decide) rfl (aY (pv 0) (aY (pv 2) (aY (pv 3) a6)))))
   (aZ (cE (bU (pM (cC dS (pv 5) a8 (fun _ _=>rfl)))) (bA (bI (cC dS (pv 5) a8 (fun _ _=>rfl)))) bT)
   (aZ (bK (i:=6) eZ.nd rfl (Or.inl rfl) (bN dE hr (by decide) rfl (aY (pv 0) (aY (pv 2) (aY (pv 4) a6)))))
   (aZ (cE (bU (pM (cC dS (pv 6) a8 (fun _ _=>rfl)))) (bA (bI (cG (aY (bH eU (cC bZ (cC dS (pv 6) a8 (fun _ _=>rfl)) a8 (fun _ _=>rfl)) a8) (aY (cC bZ (cC dS (pv 6) a8 (fun _ _=>rfl)) a8 (fun _ _=>rfl)) a6))))) bT)
   (aZ (cE (bU (gO (bB (cC dS (pv 5) a8 (fun _ _=>rfl)) rfl) (bB (cC dS (pv 6) a8 (fun _ _=>rfl)) rfl))) (bA (bI (cG (aY (cH rfl T.NOT_AS_TOLD) a6)))) bT)
   (aZ (bK (i:=7) eZ.nd rfl (Or.inl rfl) (bN EQ hr (by decide) rfl (aY (pv 3) (aY (pv 4) a6))))
   (aZ (bK (i:=8) eZ.nd rfl (Or.inl rfl) (bN dE hr (by decide) rfl (aY (pv 0) (aY (pv 2) (aY (pv 7) a6)))))
   (bA (bI (iE (bU (uX (cC dS (pv 8) a8 (fun _ _=>rfl)))) (bH jU (cG (aY a8 a6)) (pv 7)) (cC dS (pv 8) a8 (fun _ _=>rfl))))))))))))))),?_⟩
  walk_at"0";refine fL I.calls e1 fun H1 b1 C1 d1=>?_;walk_at"0";refine jG C1 (by rw[d1];exact e2) fun H2 ra i2 b2 C2 d2 ZW hra=>?_;walk_at"0";refine jG C2 (by rw[d2];exact e3) fun H3 rb i3 b3 C3 d3 frb hrb=>?_;rw[dJ] at hra hrb;have nra:ra≠p:=fun z=>by
   obtain⟨dx,hp⟩:=C2.at_;rw[z,hp] at hra;cases hra
  have ZR:H3 ra=some (.lst (nums ba)):=b3 _ _ hra nra;have b13:=(b1.trans b2).trans b3;obtain⟨HA3,T3⟩:=I.mid b13;walk_at"0";refine⟨ph,hl,ra,hv,st,s,ba,rfl,HA3,ZR,hya,by lia,fun H4 r x y EY hr4 h1 h2=>?_⟩;rcases iR h1 h2 with ⟨q,al,rfl,hq2,PR,hal,hje⟩ | ⟨PQ,NA,pa,bla,rfl,rfl,hja,hNA,_,aEn⟩
  ·walk_at"0";refine⟨_,gF.of hr4,V.ref q,rfl,?_⟩;rw[if_pos (by rfl)];refine⟨_,gF.of hr4,V.ref q,rfl,?_⟩;exact fin_same I kq b13 C3 d3 (.of EY) (T3.same EY) (fun o e=>by rw[hq2] at e;cases e) PR est (by rw[hal])
  rw[aEn] at est;walk_at"0";refine⟨_,gF.of hr4,V.non,rfl,?_⟩;rw[if_neg (by decide)];walk_at"0";refine⟨ph,hl,rb,hv,st,s,bb,rfl,HA3.same EY,EY _ _ hrb,hyb,by lia,fun H5 r' x' y' sm5 hr5 h1' h2'=>?_⟩;have OC:=EY.trans sm5;rcases iR h1' h2' with ⟨q,al,rfl,hq2,PR,hal,hje⟩ | ⟨_,NB,pb,blb,rfl,rfl,hjb,hNB,_,aEU⟩
  ·refine aA (hje PQ) fun e he eal=>?_;rw[he] at est;rw[eal] at PR;walk_at"0";refine⟨_,gF.of hr5,V.ref q,rfl,?_⟩;rw[if_pos (by rfl)];refine⟨_,gF.of hr5,V.ref q,rfl,q,rfl,_,cT.of PR,V.int e.1,rfl,?_⟩;walk_at"0";refine⟨_,gF.of hr5,V.ref q,rfl,q,rfl,_,cT.of PR,V.int (e.2:Nat),rfl,by decide,d8 I kq b13 C3 d3 (.of OC) (T3.same OC) est ?_⟩;rw[KS];rfl
  rw[hjb] at est;walk_at"0";refine⟨_,gF.of hr5,V.non,rfl,?_⟩;rw[if_neg (by decide)]
  have jL:BrainNeutral.step st [[11,(s:Int)],ba.map fun (n:Nat)=>(n:Int),bb.map fun (n:Nat)=>(n:Int)]=(st,told (if NA.widthOut≠NB.width then Brain.says (-21) else match Br.judge st.nets s (BM.bytesOf (ba.dropLast++bb.drop 6)) with
     | .error e=>Brain.faulty e
     | .ok _=>Brain.gives (BM.bytesOf (ba.dropLast++bb.drop 6)))):=est
  refine aI (hNA.smt (.of sm5)) fun dna una hna _ _ _ n4 _=>?_;refine aT hNB fun dnb unb hnb _ _ m3 _=>?_;have Z:=kN hna TW;have Y:=kN hnb TW;walk_at"0";refine⟨_,gF.of (sm5 _ _ hr4),V.ref pa,rfl,?_⟩;rw[Z.w];refine⟨_,gF.of hr5,V.ref pb,rfl,?_⟩;rw[Y.win];refine⟨_,rfl,_,rfl,?_⟩;rw[n4,m3];have T5:=T3.same OC;refine cZ (fun c=>?_) (fun c=>?_)
  ·have c':NA.widthOut≠NB.width:=fun z=>by
    have:=of_decide_eq_false c;exact this (by rw[z])
   rw[if_pos c'] at jL;refine⟨by decide,d8 I kq b13 C3 d3 (.of OC) T5 jL ?_⟩;rw[eD];rfl
  have c':¬NA.widthOut≠NB.width:=fun z=>c (decide_eq_false fun e=>z (by lia));rw[if_neg c'] at jL;have la:=GZ hja;have lb:=GZ hjb;walk_at"0";refine⟨ra,rb,ba,bb,rfl,OC _ _ ZR,OC _ _ hrb,by lia,hla,lb.1,hlb,fun H6 rj sm6 frj hrj=>?_⟩;have aAQ:=OC.trans sm6;have hyj:∀ x∈ba.dropLast++bb.drop 6,x<256:=fun x hx=>by
   rcases List.mem_append.mp hx with hx | hx
   ·exact hya x (List.dropLast_subset ba hx)
   ·exact hyb x (List.mem_of_mem_drop hx)
  have hlj:(ba.dropLast++bb.drop 6).length≤40000:=by
   rw[aFb,List.length_dropLast,aFp];lia
  walk_at"0";refine⟨ph,hl,rj,hv,st,s,ba.dropLast++bb.drop 6,rfl,HA3.same aAQ,hrj,hyj,hlj,fun H7 r2 x2 y2 OB hr7 g1 g2=>?_⟩;have aAP:=aAQ.trans OB;have T7:=T3.same aAP;rcases iR g1 g2 with ⟨q,al,rfl,hq2,PR,hal,hje⟩ | ⟨_,NJ,pj,blj,rfl,rfl,hjj,hNJ,_,_⟩
  ·refine aA (hje PQ) fun e he eal=>?_;rw[he] at jL;walk_at"0";refine⟨_,gF.of hr7,V.ref q,rfl,?_⟩;rw[if_neg (fun z=>by cases aFf z)];refine⟨_,gF.of hr7,V.ref q,rfl,?_⟩;refine fin_same I kq b13 C3 d3 (.of aAP) T7 (fun o e=>by rw[aAQ.free hq2] at e;cases e) PR jL ?_;rw[qK,eal]
  ·rw[hjj] at jL;walk_at"0";refine⟨_,gF.of hr7,V.non,rfl,?_⟩;rw[if_pos (by rfl)];refine⟨by decide,fun z hz=>?_⟩;have sz:=a9 (o:= .lst [V.int 0]) hz;have aCl:=aAP.trans sz;refine⟨_,a7,_,sz _ _ (OB _ _ hrj),?_,d8 I kq b13 C3 d3 (.of aCl) (T3.same aCl) jL ?_⟩
   ·rw[bM,sizeLine_eq];show 1+(ba.dropLast++bb.drop 6).length≤_;lia
   ·show (told (Brain.gives (BM.bytesOf (ba.dropLast++bb.drop 6)))).map V.int=_;rw[BY hyj,o7];rfl
end
local macro_rules | `(tactic| walk_at"0")=>sm false ([]) (mV++mL++lK++eS++fO++eM)
abbrev CV:Stmt:=top 111
theorem nD:bJ ["house","calls","s","row","kept"] ["house","calls"] (bC CV):=bV (by kernel_rfl)
abbrev wC:Stmt:=top 113
theorem iC:bJ ["house","calls","s","n","row","kept"] ["house","calls"] (bC wC):=bV (by kernel_rfl)
abbrev z5:Stmt:=top 112
theorem fT:bJ ["house","calls","s","rows","kept","width","answer","place"] ["house","calls"] (bC z5):=bV (by kernel_rfl)
theorem cD.aBC{CH C CL:Addr}{Ts:TL}{H:Hp}{ph hl:Addr}{hv:List V}{st:Brain.State}{s:Nat}{N:Br.Net}{q ra:Addr}{x:List Nat}(HA:cD CH C CL H ph hl hv st)(hk:Br.kept st.nets s=some N)(hs:s<8)(hat:hv[s]?=some (.ref q))(hra:H ra=some (.lst (nums x)))(hl:x.length=N.width)(hlt:∀ v∈x,v<4294967296)(T:mQ Ts H):UJ C CL Ts H hv st.nets s N q ra x:=
 ⟨HA.is_.ZS,HA.nets,hk,hat,by lia,hra,hl,hlt,T⟩
theorem E1(S:Br.Stand):told (Brain.standing S)=0::(Brain.standing S).nums.map fun (n:Nat)=>(n:Int):=by
 match S with
 | .out x=>exact gG _
 | .works []=>exact gG _
 | .works (f::l)=>
  obtain⟨k,N,s⟩:=f;exact gG _
theorem IH{l:List Int}{m:Nat}(h:(decide (0≤l.length)&&decide (l.length≤m)&&l.all (PyInside.within 0 4294967295))=true):∃ b:List Nat,l=b.map (fun (n:Nat)=>(n:Int))∧b.length≤m∧∀ x∈b,x<4294967296:=by
 rw[aFg,aFg,decide_eq_true_iff,decide_eq_true_iff] at h;(refine aA (tE h.2) fun b bO hb=>?_;subst bO);refine⟨b,rfl,by have:=h.1.2;rw[aFd] at this;exact this,fun x hx=>by have:=hb x hx;lia⟩
theorem zP{Hs:Br.House}{s:Nat}{b:Br.Bytes}{N:Br.Net}(h:Br.judge Hs s b= .ok N):N.widthOut≤64:=by
 unfold Br.Net.widthOut
 cases e:N.layers.getLast? with
 | none=>exact aFx _
 | some t=>exact(BM.D4 h t (List.mem_of_getLast? e)).ok.2.1
def uY(Hs:Br.House)(s:Nat)(N:Br.Net)(wN:Nat)(b:List Nat)(i:Nat):List Nat:=((List.range i).map fun i=>(b.drop (wN*i)).take wN).flatMap (Br.through Hs s N)
theorem aAX:∀ w n:Fin 65,1≤w.val→Builtin.Range.small 0 ((w.val*n.val:Nat):Int) (w.val:Int)=true∧Builtin.Range.rangeSize 0 ((w.val*n.val:Nat):Int) (w.val:Int)=(n.val:Nat):=by decide +kernel
section
variable{P:Program}{w:World}{K:W.Frag}{mg:Str→Option Value}{base:Heap}{CC CH C CL:Addr}{Ts:TL}
theorem L1(D:Def K mg "call_run" CV ["house","calls"])(T:tJ K mg)(TC:sF K CH)(TW:hU K C)(bE:cV P w K mg base CC "take_number" ["self"] 1 (b9 K CC))(bR:cV P w K mg base CC "take_row" ["self"] 2 (cN K CC))(d7:cV P w K mg base CH "kept_at" ["self","s"] 1 (iO CH C CL))(gY:Own P w K mg base "row_behind" ["place","net","row"] 9 (j7 C CL Ts)):
  Own P w K mg base "call_run" ["house","calls"] 10 (gD K CC CH C CL Ts 15):=by
 refine D.own nD (fun vs H Q E h=>eK h) (fun f cdv A outer s0 H vs Q Ex hr h=>?_)
 ·obtain⟨ph,p,a,hl,g,hv,st,ns,i,c,t,rfl,I,kq⟩:=h;(refine aJ (BM.kJ (by decide) I.call) fun x s1 r1 e1 e2 bO=>?_;subst bO);have hb':(PyInside.within 0 4294967295 x&&true&&(decide (0≤r1.length)&&decide (r1.length≤500)&&r1.all (PyInside.within 0 4294967295)&&true))=true:=I.bound;rw[aFm,aFm,aFg] at hb';(refine aA (cI hb'.1) fun s cA hs=>?_;subst cA);(refine aC (IH hb'.2) fun b dF xZ xE=>?_;subst dF);have est:BrainNeutral.step st [[15,(s:Int)],b.map fun (n:Nat)=>(n:Int)]=(st,told (Brain.ofKept st s fun N=>if b.length≠N.width then Brain.says (-21) else Brain.tells (Br.through st.nets s N b))):=by
   rw[f9 (x:= .run s b) (by show some (Brain.Call.run _ _)=_;rw[eL];rfl)];rfl
  refine⟨_,(aZ (bK (i:=2) nD.nd rfl (Or.inl rfl) (cJ bE hr (by decide) (pv 1)))
   (aZ (bK (i:=3) nD.nd rfl (Or.inl rfl) (cJ bR hr (by decide) (pv 1)))
   (aZ (bK (i:=4) nD.nd rfl (Or.inl rfl) (oY d7 hr (by decide) (pv 0) (aY (pv 2) a6)))
   (aZ (cE (bU (uX (pv 4))) (bA (bI (cG (aY (cH rfl T.NO_PLACE) a6)))) bT)
   (aZ (cE (bU (gO (bY bQ (by rfl) T.len PySem.boot_len (aY (pv 3) a6)) (bB (pv 4) rfl))) (bA (bI (cG (aY (cH rfl T.NOT_AS_TOLD) a6)))) bT)
   (bA (bI (bH jU (cG (aY a8 a6)) (bN gY hr (by decide) rfl (aY (pv 2) (aY (pv 4) (aY (pv 3) a6)))))))))))),?_⟩
  walk_at"0";refine fL I.calls e1 fun H1 b1 C1 d1=>?_;refine jG C1 (by rw[d1];exact e2) fun H2 ra i2 b2 C2 d2 ZW hra=>?_;rw[dJ] at hra;have qE:=b1.trans b2;obtain⟨HA,T2⟩:=I.mid qE;obtain⟨dx,hp⟩:=HA.at_;refine(iK hp (by rfl) _).mpr ⟨ph,hl,hv,st,s,rfl,HA,?_⟩;rcases HA.item s with ⟨ek,ev⟩ | ⟨N,q,a',bl,ek,PQ,hat,ev,hN,_⟩
  ·rw[ev];walk_at"0";refine⟨by decide,d8 I kq qE C2 d2 (pB.refl H2) T2 (al:=[-20]) ?_ rfl⟩;rw[est];unfold Brain.ofKept;rw[ek];show (st,told (Brain.says (-20)))=_;rw[eD]
  ·rw[ev];rw[if_neg (fun z=>by cases aFf z)];refine aT (id hN) fun dn un hn _ _ n3 _=>?_;have Z:=kN hn TW;refine⟨_,rfl,_,.inl (cT.of hra),?_⟩;rw[Z.win,n3,bM];have jL:BrainNeutral.step st [[15,(s:Int)],b.map fun (n:Nat)=>(n:Int)]=(st,told (if b.length≠N.width then Brain.says (-21) else Brain.tells (Br.through st.nets s N b))):=by
    rw[est];unfold Brain.ofKept;rw[ek]
   refine⟨_,rfl,cZ (fun c=>?_) (fun c=>?_)⟩
   ·have c':b.length≠N.width:=fun z=>by
     have:=of_decide_eq_false c;exact this (by rw[z])
    rw[if_pos c'] at jL;refine⟨by decide,d8 I kq qE C2 d2 (pB.refl H2) T2 jL ?_⟩;rw[eD];rfl
   have c':¬b.length≠N.width:=fun z=>c (decide_eq_false fun e=>z (by lia));rw[if_neg c'] at jL;have hwo:=zP (HA.is_.ok s N ek);refine⟨by decide,fun z hz=>?_⟩;have sz:=a9 (o:= .lst [V.int 0]) hz;refine⟨hv,st.nets,s,N,q,ra,b,rfl,(HA.same sz).aBC ek PQ hat (sz _ _ hra) (Classical.not_not.mp c') xE (T2.same sz),fun H3 r sm tb fr hr hl3=>⟨r,rfl,_,sm _ _ a7 (fun _ z=>by cases z),_,hr,?_,?_⟩⟩
   ·rw[bM,hl3,sizeLine_eq];show 1+N.widthOut≤_;lia
   ·refine d8 I kq qE C2 d2 ((pB.of sz).trans sm) tb jL ?_;rw[gG,o7];rfl
theorem FF(D:Def K mg "call_watch" wC ["house","calls"])(T:tJ K mg)(TC:sF K CH)(TW:hU K C)(bE:cV P w K mg base CC "take_number" ["self"] 1 (b9 K CC))(bR:cV P w K mg base CC "take_row" ["self"] 2 (cN K CC))(d7:cV P w K mg base CH "kept_at" ["self","s"] 1 (iO CH C CL))(zI:Own P w K mg base "watched" ["place","net","row","n"] 9 (uO C CL Ts)):
  Own P w K mg base "call_watch" ["house","calls"] 10 (gD K CC CH C CL Ts 17):=by
 refine D.own iC (fun vs H Q E h=>eK h) (fun f cdv A outer s0 H vs Q Ex hr h=>?_)
 ·obtain⟨ph,p,a,hl,g,hv,st,ns,i,c,t,rfl,I,kq⟩:=h;(refine aE (BM.kI (by decide) I.call) fun x x2 s1 bO=>?_;refine aC bO fun r1 e1 e2 cA=>?_;subst cA);have hb':((PyInside.within 0 4294967295 x&&(PyInside.within 0 4294967295 x2&&true))&&(decide (0≤r1.length)&&decide (r1.length≤500)&&r1.all (PyInside.within 0 4294967295)&&true))=true:=I.bound;rw[aFm,aFm,aFg,aFg] at hb';(refine aA (cI hb'.1.1) fun s dF hs=>?_;subst dF);(refine aA (cI hb'.1.2) fun n eX hn0=>?_;subst eX);(refine aC (IH hb'.2) fun b hE xZ xE=>?_;subst hE);have est:BrainNeutral.step st [[17,(s:Int),(n:Int)],b.map fun (n:Nat)=>(n:Int)]=(st,told (Brain.ofKept st s fun N=>if b.length≠N.width∨8192<n then Brain.says (-21) else Brain.standing (Br.turns st.nets n (iG s N b)))):=by
   rw[f9 (x:= .watch s n b) (by show some (Brain.Call.watch _ _ _)=_;rw[eL];rfl)];rfl
  refine⟨_,(aZ (bK (i:=2) iC.nd rfl (Or.inl rfl) (cJ bE hr (by decide) (pv 1)))
   (aZ (bK (i:=3) iC.nd rfl (Or.inl rfl) (cJ bE hr (by decide) (pv 1)))
   (aZ (bK (i:=4) iC.nd rfl (Or.inl rfl) (cJ bR hr (by decide) (pv 1)))
   (aZ (bK (i:=5) iC.nd rfl (Or.inl rfl) (oY d7 hr (by decide) (pv 0) (aY (pv 2) a6)))
   (aZ (cE (bU (uX (pv 5))) (bA (bI (cG (aY (cH rfl T.NO_PLACE) a6)))) bT)
   (aZ (cE (PW.pt (jM (bU (gO (bY bQ (by rfl) T.len PySem.boot_len (aY (pv 4) a6)) (bB (pv 5) rfl))) (k0 (bU (jN (pv 3) (cH rfl T.MOST_WATCHED)))))) (bA (bI (cG (aY (cH rfl T.NOT_AS_TOLD) a6)))) bT)
   (bA (bI (bH jU (cG (aY a8 a6)) (bN zI hr (by decide) rfl (aY (pv 2) (aY (pv 5) (aY (pv 4) (aY (pv 3) a6)))))))))))))),?_⟩
  walk_at"0";refine fL I.calls e1 fun H0 b0 C0 d0=>fL C0 d0 fun H1 b1 C1 d1=>?_;refine jG C1 (by rw[d1];exact e2) fun H2 ra i2 b2 C2 d2 ZW hra=>?_;rw[dJ] at hra;have qE:=(b0.trans b1).trans b2;obtain⟨HA,T2⟩:=I.mid qE;obtain⟨dx,hp⟩:=HA.at_;refine(iK hp (by rfl) _).mpr ⟨ph,hl,hv,st,s,rfl,HA,?_⟩;rcases HA.item s with ⟨ek,ev⟩ | ⟨N,q,a',bl,ek,PQ,hat,ev,hN,_⟩
  ·rw[ev];walk_at"0";refine⟨by decide,d8 I kq qE C2 d2 (pB.refl H2) T2 (al:=[-20]) ?_ rfl⟩;rw[est];unfold Brain.ofKept;rw[ek];show (st,told (Brain.says (-20)))=_;rw[eD]
  ·rw[ev];rw[if_neg (fun z=>by cases aFf z)];refine aT (id hN) fun dn un hn _ _ n3 _=>?_;have Z:=kN hn TW;refine⟨_,rfl,_,.inl (cT.of hra),?_⟩;rw[Z.win,n3,bM];have jL:BrainNeutral.step st [[17,(s:Int),(n:Int)],b.map fun (n:Nat)=>(n:Int)]=(st,told (if b.length≠N.width∨8192<n then Brain.says (-21) else Brain.standing (Br.turns st.nets n (iG s N b)))):=by
    rw[est];unfold Brain.ofKept;rw[ek]
   refine⟨_,rfl,cZ (fun c=>?_) (fun c=>⟨_,rfl,cZ (fun c2=>?_) (fun c2=>?_)⟩)⟩
   ·have c':b.length≠N.width:=fun z=>by
     have:=of_decide_eq_false c;exact this (by rw[z])
    rw[if_pos (.inl c')] at jL;refine⟨by decide,d8 I kq qE C2 d2 (pB.refl H2) T2 jL ?_⟩;rw[eD];rfl
   ·have c2':=aFf c2;rw[if_pos (.inr (by lia))] at jL;refine⟨by decide,d8 I kq qE C2 d2 (pB.refl H2) T2 jL ?_⟩;rw[eD];rfl
   have c':b.length=N.width:=aFA fun z=>c (decide_eq_false fun e=>z (by lia));have c2':¬8192<n:=fun z=>c2 (aFc (by lia));rw[if_neg (fun z=>z.elim (fun z=>z c') c2')] at jL;refine⟨by decide,fun z hz=>?_⟩;have sz:=a9 (o:= .lst [V.int 0]) hz;refine⟨hv,st.nets,s,n,N,q,ra,b,rfl,(HA.same sz).aBC ek PQ hat (sz _ _ hra) c' xE (T2.same sz),fun H3 r sm tb fr hr hl3=>⟨r,rfl,_,sm _ _ a7 (fun _ z=>by cases z),_,hr,?_,?_⟩⟩
   ·rw[bM,sizeLine_eq];show 1+(Brain.standing (Br.turns st.nets n (iG s N b))).nums.length≤_;lia
   ·refine d8 I kq qE C2 d2 ((pB.of sz).trans sm) tb jL ?_;rw[E1,o7];rfl
theorem IX(D:Def K mg "call_rows" z5 ["house","calls"])(T:tJ K mg)(TC:sF K CH)(TW:hU K C)(bE:cV P w K mg base CC "take_number" ["self"] 1 (b9 K CC))(bR:cV P w K mg base CC "take_row" ["self"] 2 (cN K CC))(d7:cV P w K mg base CH "kept_at" ["self","s"] 1 (iO CH C CL))(gY:Own P w K mg base "row_behind" ["place","net","row"] 9 (j7 C CL Ts)):
  Own P w K mg base "call_rows" ["house","calls"] 10 (gD K CC CH C CL Ts 16):=by
 refine D.own fT (fun vs H Q E h=>eK h) (fun f cdv A outer s0 H vs Q Ex hr h=>?_)
 ·obtain⟨ph,p,a,hl,g,hv,st,ns,i,c,t,rfl,I,kq⟩:=h;(refine aJ (BM.kJ (by decide) I.call) fun x s1 r1 e1 e2 bO=>?_;subst bO);have hb':(PyInside.within 0 4294967295 x&&true&&(decide (0≤r1.length)&&decide (r1.length≤5000)&&r1.all (PyInside.within 0 4294967295)&&true))=true:=I.bound;rw[aFm,aFm,aFg] at hb';(refine aA (cI hb'.1) fun s cA hs=>?_;subst cA);(refine aC (IH hb'.2) fun b dF xZ xE=>?_;subst dF);have est:BrainNeutral.step st [[16,(s:Int)],b.map fun (n:Nat)=>(n:Int)]=(st,told (Brain.ofKept st s fun N=>if b.length % N.width≠0∨64<b.length / N.width then Brain.says (-21) else Brain.tells ((Brain.rowsOf N.width b).flatMap (Br.through st.nets s N)))):=by
   rw[f9 (x:= .rows s b) (by show some (Brain.Call.rows _ _)=_;rw[eL];rfl)];rfl
  refine⟨_,(aZ (bK (i:=2) fT.nd rfl (Or.inl rfl) (cJ bE hr (by decide) (pv 1)))
   (aZ (bK (i:=3) fT.nd rfl (Or.inl rfl) (cJ bR hr (by decide) (pv 1)))
   (aZ (bK (i:=4) fT.nd rfl (Or.inl rfl) (oY d7 hr (by decide) (pv 0) (aY (pv 2) a6)))
   (aZ (cE (bU (uX (pv 4))) (bA (bI (cG (aY (cH rfl T.NO_PLACE) a6)))) bT)
   (aZ (bK (i:=5) fT.nd rfl (Or.inl rfl) (bB (pv 4) rfl))
   (aZ (cE (PW.pt (jM (bU (gO (bH yP (bY bQ (by rfl) T.len PySem.boot_len (aY (pv 3) a6)) (pv 5)) a8)) (k0 (bU (jN (bY bQ (by rfl) T.len PySem.boot_len (aY (pv 3) a6)) (bH eC (cH rfl T.MOST_ROWS) (pv 5))))))) (bA (bI (cG (aY (cH rfl T.NOT_AS_TOLD) a6)))) bT)
   (aZ (bK (i:=6) fT.nd rfl (Or.inl rfl) (cG (aY a8 a6)))
   (aZ (dG (jD PassesOwn.never rfl (yN rfl T.range (aY a8 (aY (bY bQ (by rfl) T.len PySem.boot_len (aY (pv 3) a6)) (aY (pv 5) a6)))) (dM (i:=7) fT.nd rfl (Or.inl rfl)) (bA (dA (o0 PySem.F.plainAttrs_list PySem.F.slot_list_extend PySem.F.type_list_extend GW (pv 6) (aY (bN gY hr (by decide) rfl (aY (pv 2) (aY (pv 4) (aY (jE m9 (pv 3) (gU (pv 7)) (gU (bH bX (pv 7) (pv 5)))) a6)))) a6))))))
   (bA (bI (pv 6))))))))))),?_⟩
  walk_at"0";refine fL I.calls e1 fun H1 b1 C1 d1=>?_;refine jG C1 (by rw[d1];exact e2) fun H2 ra i2 b2 C2 d2 ZW hra=>?_;rw[dJ] at hra;have qE:=b1.trans b2;obtain⟨HA,T2⟩:=I.mid qE;obtain⟨dx,hp⟩:=HA.at_;refine(iK hp (by rfl) _).mpr ⟨ph,hl,hv,st,s,rfl,HA,?_⟩;rcases HA.item s with ⟨ek,ev⟩ | ⟨N,q,a',bl,ek,PQ,hat,ev,hN,_⟩
  ·rw[ev];walk_at"0";refine⟨by decide,d8 I kq qE C2 d2 (pB.refl H2) T2 (al:=[-20]) ?_ rfl⟩;rw[est];unfold Brain.ofKept;rw[ek];show (st,told (Brain.says (-20)))=_;rw[eD]
  ·rw[ev];rw[if_neg (fun z=>by cases aFf z)];refine aT (id hN) fun dn un hn _ _ n3 _=>?_;have Z:=kN hn TW;rw[Z.win,n3];have jL:BrainNeutral.step st [[16,(s:Int)],b.map fun (n:Nat)=>(n:Int)]=(st,told (if b.length % N.width≠0∨64<b.length / N.width then Brain.says (-21) else Brain.tells ((Brain.rowsOf N.width b).flatMap (Br.through st.nets s N)))):=by
    rw[est];unfold Brain.ofKept;rw[ek]
   have hjk:=HA.is_.ok s N ek;have hw:=(BM.iX hjk).2;have hwo:=zP hjk;generalize hwN:N.width=wN at *;walk_at"0";have em:((b.length:Int) % (wN:Int))=((b.length % wN:Nat):Int):=rfl;refine⟨_,.inl (cT.of hra),by lia,?_⟩;rw[bM,em];refine cZ (fun c=>?_) (fun c=>⟨_,.inl (cT.of hra),.inl ⟨by decide,by decide⟩,?_⟩)
   ·have c':b.length % wN≠0:=fun z=>by
     have:=of_decide_eq_false c;exact this (by rw[z];rfl)
    rw[if_pos (.inl c')] at jL;refine⟨by decide,d8 I kq qE C2 d2 (pB.refl H2) T2 jL ?_⟩;rw[eD];rfl
   have c':b.length % wN=0:=aFA fun z=>c (decide_eq_false fun e=>z (by lia));have hdiv:b.length=wN*(b.length / wN):=(Nat.mul_div_cancel' (Nat.dvd_of_mod_eq_zero c')).symm;generalize hnn:b.length / wN=n at hdiv jL;rw[bM];refine cZ (fun c2=>?_) (fun c2=>?_)
   ·have c2':=aFf c2;have c3:64<n:=by
     refine aFA fun z=>?_;have:=Nat.mul_le_mul_left wN (show n≤64 by lia);lia
    rw[if_pos (.inr c3)] at jL;refine⟨by decide,d8 I kq qE C2 d2 (pB.refl H2) T2 jL ?_⟩;rw[eD];rfl
   have c3:n≤64:=by
    refine aFA fun z=>c2 (aFc ?_);have:=Nat.mul_le_mul_left wN (show 65≤n by lia);lia
   rw[if_neg (fun z=>z.elim (fun z=>z c') (by lia))] at jL;have aCQ:Brain.rowsOf wN b=(List.range n).map fun i=>(b.drop (wN*i)).take wN:=by
    unfold Brain.rowsOf;rw[hnn]
   rw[aCQ] at jL;have oS:∀ i,uY st.nets s N wN b (i+1)=uY st.nets s N wN b i++Br.through st.nets s N ((b.drop (wN*i)).take wN):=fun i=>by
    unfold uY;rw[List.range_succ,aFC,List.flatMap_append];simp
   refine⟨by decide,fun AA hAA=>?_⟩;have sA:=a9 (o:= .lst [V.int 0]) hAA;have frA:uG H2 AA:=fun o e=>by rw[hAA] at e;cases e
   have nrA:ra≠AA:=fun z=>by rw[z,hAA] at hra;cases hra
   refine⟨fun σ' H'=>(∃ z,σ'=[some (.ref ph),some (.ref p),some (.int (s:Nat)),some (.ref ra),some (.ref q),some (.int (wN:Nat)),some (.ref AA),z])∧pB H2 H'∧mQ Ts H'∧H' AA=some (.lst (V.int 0::nums (uY st.nets s N wN b n))),?_,?_⟩
   ·walk_at"0";refine⟨_,.inl (cT.of (sA _ _ hra)),_,_,_,⟨rfl,rfl,rfl⟩,n,?_,ED (lo:=0) (c:=(wN:Int)) (n:=n) (fun i σ' H'=>(∃ z,σ'=[some (.ref ph),some (.ref p),some (.int (s:Nat)),some (.ref ra),some (.ref q),some (.int (wN:Nat)),some (.ref AA),z])∧pB H2 H'∧mQ Ts H'∧(uY st.nets s N wN b i).length≤64*i∧H' AA=some (.lst (V.int 0::nums (uY st.nets s N wN b i)))) ⟨⟨none,rfl⟩,.of sA,T2.same sA,aFi _,a7⟩ ?_ ?_⟩
    ·rw[bM,hdiv];obtain⟨g1,g2⟩:=aAX ⟨wN,by lia⟩ ⟨n,by lia⟩ hw.1;exact⟨by lia,by lia,g1,g2⟩
    ·rintro i σ' H3 hi ⟨⟨z,rfl⟩,sm3,T3,hol,hA3⟩;have aEu:wN*i+wN≤b.length:=by
      have:=Nat.mul_le_mul_left wN (show i+1≤n by lia);rw[Nat.mul_succ] at this;lia
     have ZR:H3 ra=some (.lst (nums b)):=sm3 _ _ hra (fun _ z=>by cases z);walk_at"0";refine⟨.inl ⟨rfl,_,cT.of hA3⟩,_,cT.of ZR,fun z2 hz2=>?_⟩;rw[EH (o:=wN*i) (k:=wN) (by rw[Int.zero_add,aFw,Int.mul_comm]) (by rw[Int.zero_add,Int.natCast_add,aFw,Int.mul_comm]) aEu];have sz:=a9 (o:= .lst (nums ((b.drop (wN*i)).take wN))) hz2;have hrl:((b.drop (wN*i)).take wN).length=wN:=by
      rw[aFq,aFp];lia
     refine⟨hv,st.nets,s,N,q,z2,(b.drop (wN*i)).take wN,rfl,((HA.smt sm3).same sz).aBC ek PQ hat a7 (by rw[hrl,hwN]) (fun v hv=>xE v (BM.wY hv)) (T3.same sz),fun H4 r sm tb fr hr hl3=>?_⟩;have hA4:H4 AA=some (.lst (V.int 0::nums (uY st.nets s N wN b i))):=sm _ _ (sz _ _ hA3) (fun _ z=>by cases z);have aDC:=sm3.trans ((pB.of sz).trans sm);refine⟨AA,r,_,_,⟨rfl,rfl,hA4,hr,?_,⟨_,rfl⟩,fun b' o e n=>?_,tb.but dW hA4 trivial (fun φ z=>by cases z),?_,?_⟩⟩
     ·rw[List.length_cons,bM,bM,hl3,sizeLine_eq];lia
     ·rw[bF (frA.ne e n)];exact aDC _ _ e n
     ·rw[oS,aFb,hl3];lia
     ·rw[a7,oS];unfold nums;rw[aFC,List.cons_append]
    ·rintro σ' H3 ⟨hz,sm3,T3,_,hA3⟩;exact⟨hz,sm3,T3,hA3⟩
   ·rintro σ' H3 ⟨⟨z,rfl⟩,sm3,T3,hA3⟩;walk_at"0";refine fin_same I kq qE C2 d2 sm3 T3 frA hA3 jL ?_;rw[gG,o7];rfl
end
local macro_rules | `(tactic| walk_at"d")=>sm true ([]) (lK++eS++fO++eM)
abbrev GK:Stmt:=top 115
theorem mB:bJ ["calls","house","left","given","answer"] ["calls"] (bC GK):=bV (by kernel_rfl)
theorem YO{r x s:List Int}(h:PyFlat.row r=some (x,s)):s.length≤r.length:=by
 (refine aN (BM.GN h) fun n r' bO _ _ cA=>?_;subst bO;subst cA);rw[aFp,List.length_cons];lia
theorem K9:∀ (k:Nat) {r:List Int} {xs:List (List Int)} {t:List Int},PyFlat.rows k r=some (xs,t)→t.length≤r.length
 | 0,r,xs,t,h=>by
  obtain⟨_,rfl⟩:=BM.sQ h;exact aFi _
 | k+1,r,xs,t,h=>by
  refine aJ (BM.sR h) fun x s ys h1 h2 _=>?_;have:=YO h1;have:=K9 k h2;lia
theorem XH{p:Int}{r:List Int}{c:List (List Int)}{t:List Int}(h:PyFlat.call PyWrbrnr.shape (p::r)=some (c,t)):t.length≤r.length∧0≤p∧p≤17:=by
 refine aQ (BM.fV h) fun n k xs e1 e2 e3 _=>?_;have:=K9 k e3;rw[aFp] at this;have hp:=BM.zS e1;exact⟨by lia,hp.1,hp.2⟩
theorem RU{H:Hp}{g:Addr}{o:HO}:del (upd H g o) g=del H g:=by
 funext b;by_cases c:b=g
 ·subst c;rw[fN,fN]
 ·rw[dU c,dU c,bF c]
def R8(P:Program)(w:World)(K:W.Frag)(mg:Str→Option Value)(base:Heap)(kvs:List (Int×V))(CC CH C CL:Addr)(Ts:TL):Prop:=∀ n:Int,0≤n→n≤17→∃ f,kvs.lookup n=some (.ref f)∧EM P w K mg base f ["house","calls"] 10 (gD K CC CH C CL Ts n)
inductive uT(Ts:TL)(K:W.Frag)(vs:List V)(H:Hp)(Q:VK)(E:XK):Prop
 | mk (a:Addr) (ns:List Int) (_:vs=[.ref a]) (_:cT K H a (ns.map V.int)) (_:mQ Ts H) (_:PyWrbrnr.answers_asked ns=true) (_:ns.length≤30000) (_:∀ H' q,H' q=some (.lst ((PyWrbrnr.answers ns).map V.int))→Q (.ref q) H'):uT Ts K vs H Q E
theorem B2(k:Nat):Br.kept Brain.start.nets k=none:=by
 cases e:Br.kept Brain.start.nets k with
 | none=>rfl
 | some N=>
  have:=BM.KU.ok k N e;have hk:=BM.BH e;unfold Br.kept Brain.start Br.SLOTS at e;rw[aFe,List.getElem?_replicate] at e
  split at e <;> cases e
theorem O7{K:W.Frag}{H:Hp}{a p:Addr}{xs:List V}(h:cT K H a xs)(hp:H p=none):NeK K a p xs:=by
 rcases h with (h | ⟨o,h⟩) | h
 ·exact .inl fun z=>by rw[z,hp] at h;cases h
 ·exact .inl fun z=>by rw[z,hp] at h;cases h
 ·exact .inr fun H'=> .inr h
structure aDg(K:W.Frag)(CC CH C CL:Addr)(Ts:TL)(a ph p g hl:Addr)(ns:List Int)(H:Hp)(i:Nat)(hv:List V)(st:Brain.State)(f:Nat)(cs:List (List (List Int)))(dn:List Int):Prop where
 calls:cU K CC H p a ns i
 house:cD CH C CL (del H g) ph hl hv st
 tabs:mQ Ts H
 gl:H g=some (.lst (dn.map V.int))
 nah:NeK K a hl (ns.map V.int)
 nag:NeK K a g (ns.map V.int)
 rest:PyFlat.calls PyWrbrnr.shape f (ns.drop i)=some cs
 bound:∀ c∈cs,PyInside.call PyWrbrnr.bound c=true
 due:dn++PyFlat.told (PyFlat.played BrainNeutral.step st cs)=PyWrbrnr.answers ns
section
variable{P:Program}{w:World}{K:W.Frag}{mg:Str→Option Value}{base:Heap}{CC CH C CL:Addr}{Ts:TL}
theorem iU{x:Str}{n:Int}(h0:0≤n)(h7:n≤7)(O:Own P w K mg base x ["house","calls"] 10 (j8 K CC n)):Own P w K mg base x ["house","calls"] 10 (gD K CC CH C CL Ts n):=by
 refine O.imp fun vs H Q E h=>?_;obtain⟨ph,p,a,hl,g,hv,st,ns,i,c,t,rfl,I,kq⟩:=h;refine⟨ph,p,a,ns,i,c,t,rfl,I.calls,I.call,I.bound,fun H' q i' b C' d fr hq=>kq H' q i' hv ?_⟩;have e:=YV h0 h7 I.call st;refine⟨fun c o e n n1 _=>b c o e n1,C',d,?_,(I.mid b).2,(fun o e=>by rw[fr] at e;cases e),?_⟩
 ·rw[e];exact I.S9 b
 ·rw[e];exact hq
theorem O4{cl:Addr}{kvs:List (Int×V)}(D:Def K mg "answers" GK ["calls"])(T:tJ K mg)(KF:EV P w K mg base "House" CH ["self"] 1 (nV CH))(KH:EV P w K mg base "Calls" CC ["self","numbers"] 1 (nW CC))(vK:cV P w K mg base CC "are_left" ["self"] 1 (qO K CC))(bE:cV P w K mg base CC "take_number" ["self"] 1 (b9 K CC))
  (aAg:mg "CALLS"=some (.ref cl)) (KD:KDI K cl kvs) (CO:R8 P w K mg base kvs CC CH C CL Ts):Own P w K mg base "answers" ["calls"] 11 (uT Ts K):=by
 refine D.own mB (fun vs H Q E h=>?_) (fun fa cdv A outer s0 H vs Q Ex hr h=>?_)
 ·obtain⟨_,_,rfl,_⟩:=h;rfl
 ·obtain⟨a,ns,rfl,hsq,tb,aBE,aCI,kq⟩:=h;refine aR (BM.MX aBE) fun cs0 aCK _ aEx aEN=>?_;refine⟨_,(aZ (bK (i:=1) mB.nd rfl (Or.inl rfl) (aBg KF hr (by decide) rfl))
   (aZ (bK (i:=2) mB.nd rfl (Or.inl rfl) (DC KH hr (by decide) rfl (aY (pv 0) a6)))
   (aZ (bK (i:=3) mB.nd rfl (Or.inl rfl) (cG a6))
   (aZ (dG (wK PassesOwn.never (eO (cJ vK hr (by decide) (pv 2))) (aZ (bK (i:=4) mB.nd rfl (Or.inl rfl) (LM (j:=10) (Q3 (GS rfl aAg) (cJ bE hr (by decide) (pv 2)) (fun _ _=>rfl)) hr (by decide) (aY (pv 1) (aY (pv 2) a6))))
   (aZ (dA (o0 PySem.F.plainAttrs_list PySem.F.slot_list_append PySem.F.type_list_append fK (pv 3) (aY (bY bQ (by rfl) T.len PySem.boot_len (aY (pv 4) a6)) a6)))
   (bA (dA (o0 PySem.F.plainAttrs_list PySem.F.slot_list_extend PySem.F.type_list_extend GW (pv 3) (aY (pv 4) a6))))))))
   (bA (bI (pv 3))))))),?_⟩
  walk_at"d";intro ph dxh hph aCJ aDT;refine⟨ph,dxh,rfl,a7,fun H1 hl bt1 hl0 nhl aEr aEj=>⟨rfl,?_⟩⟩;have sX1:Same H (upd (upd H dxh (.own ph)) ph (.ins CH dxh [])):=(a9 aCJ).trans (a9 (by rw[bF (Ne.symm aDT)];exact hph));have OD:Same H H1:=Same.made hph aCJ fun c o e n=>bt1 c o e n;have hlH:H hl=none:=sX1.free hl0;walk_at"d";intro p PZ hp aEt aER;refine⟨p,PZ,a,rfl,a7,rfl,?_⟩;walk_at"d";rw[dD,dD];have s2:Same H1 (upd (upd H1 PZ (.own p)) p (.ins CC PZ (cf a 0))):=fun c o e=>by
   rw[bF (fun z=>by rw[z,hp] at e;cases e),bF (fun z=>by rw[z,aEt] at e;cases e)];exact e
  have hp2:=a7 (H:=upd H1 PZ (.own p)) (a:=p) (o:= .ins CC PZ (cf a 0));generalize upd (upd H1 PZ (.own p)) p (.ins CC PZ (cf a 0))=H2 at s2 hp2 ⊢;refine⟨by decide,fun g hg=>?_⟩;have s3:Same H2 (upd H2 g (.lst [])):=a9 hg;have sm3:Same H (upd H2 g (.lst [])):=(OD.trans s2).trans s3;have hg3:=a7 (H:=H2) (a:=g) (o:= .lst []);have hgH:H g=none:=(OD.trans s2).free hg;have hpH:H p=none:=OD.free hp;have G0:aDg K CC CH C CL Ts a ph p g hl ns (upd H2 g (.lst [])) 0 (List.replicate 8 .non) Brain.start ns.length cs0 []:=by
   refine⟨⟨⟨PZ,s3 _ _ hp2⟩,sm3.seq hsq,O7 hsq hpH⟩,?_,tb.same sm3,hg3,O7 hsq hlH,O7 hsq hgH,aCK,aEx,?_⟩
   ·rw[RU];have dl:∀ c o,H1 c=some o→del H2 g c=some o:=fun c o e=>by
     rw[dU (fun z=>by rw[←z,s2 _ _ e] at hg;cases hg)];exact s2 _ _ e
    refine⟨⟨dxh,dl _ _ aEj⟩,dl _ _ aEr,⟨rfl,fun k N e=>?_,fun k hk e=>?_⟩,fun k N e=>?_,BM.KU⟩
    ·exact absurd e (by rw[B2];exact fun z=>by cases z)
    ·rw[List.getElem?_replicate,if_pos hk]
    ·exact absurd e (by rw[B2];exact fun z=>by cases z)
   ·rw[BM.P8 aCK];rfl
  generalize upd H2 g (.lst [])=H3 at G0 ⊢;walk_at"d";refine⟨fun σ' H'=>∃ z,σ'=[some (.ref a),some (.ref ph),some (.ref p),some (.ref g),z]∧H' g=some (.lst ((PyWrbrnr.answers ns).map V.int)),?_,?_⟩
  ·refine⟨fun m σ' H'=>∃ z i hv st f cs dn,σ'=[some (.ref a),some (.ref ph),some (.ref p),some (.ref g),z]∧aDg K CC CH C CL Ts a ph p g hl ns H' i hv st f cs dn∧m=(ns.drop i).length,⟨_,none,0,_,_,_,_,_,rfl,G0,rfl⟩,?_⟩;rintro m σ' H4 ⟨z,i,hv,st,f,cs,dn,rfl,G,em⟩;obtain⟨dx4,UQ⟩:=G.calls.at_;walk_at"d";refine(iK UQ (AN a i (by decide +kernel) (by decide +kernel)) _).mpr ⟨p,a,ns,i,rfl,G.calls,?_⟩;walk_at"d";refine cZ (fun c=>?_) (fun c=>?_)
   ·have hi:=aFf c;have hd:ns.drop i=ns[i]::ns.drop (i+1):=List.drop_eq_getElem_cons hi;generalize ns[i]=n at hd;generalize hr0:ns.drop (i+1)=r0 at hd;have hrest:=G.rest;rw[hd] at hrest;(refine aE (BM.EJ hrest) fun f' c0 t bO=>?_;refine aC bO fun cs' hcall aEv cA=>?_;subst cA);refine aF (XH hcall) fun hcl hn0 aEq=>?_;refine⟨_,fun σ' H' h=>h,?_⟩;refine fL G.calls hd fun H5 b5 C5 d5=>?_;refine aA (CO n hn0 aEq) fun f2 hlk ow=>?_;refine⟨kvs,n,rfl,KD,V.ref f2,hlk,f2,rfl,_,_,ow,?_⟩;have npg:p≠g:=fun z=>by rw[z,G.gl] at UQ;cases UQ
    have hg5:H5 g=some (.lst (dn.map V.int)):=b5 _ _ G.gl (Ne.symm npg);have HA5:cD CH C CL (del H5 g) ph hl hv st:=by
     refine G.house.but (dx:=dx4) (a:=a) (i:=i) (CC:=CC) (p:=p) (by rw[dU npg];exact UQ) fun c o e n=>?_;have nb:c≠g:=fun z=>by rw[z,fN] at e;cases e
     rw[dU nb] at e ⊢;exact b5 c o e n
    have hd5:ns.drop (i+1)=r0:=hr0;refine⟨ph,p,a,hl,g,hv,st,ns,i+1,c0,t,rfl,⟨C5,HA5,⟨_,hg5⟩,G.nah,G.tabs.but b5 UQ trivial (fun φ z=>by cases z),by rw[hd5];exact hcall,G.bound _ (aFh ..),aCI⟩,fun H6 q i6 hv6 O=>?_⟩;have nhg:hl≠g:=fun z=>by
     have:=HA5.nl;rw[z,fN] at this;cases this
    have hg6:H6 g=some (.lst (dn.map V.int)):=O.keep _ _ hg5 (fun _ z=>by cases z) (Ne.symm npg) (Ne.symm nhg);have nqg:g≠q:=O.fresh.ne hg5 (fun _ z=>by cases z);have hq6:=O.ans;generalize hal:(BrainNeutral.step st c0).2=al at hq6;have TY:=G.due;have hpl:PyFlat.played BrainNeutral.step st (c0::cs')=al::PyFlat.played BrainNeutral.step (BrainNeutral.step st c0).1 cs':=by
     show (BrainNeutral.step st c0).2::_=_;rw[hal]
    rw[hpl,BM.SH] at TY;have aEM:dn.length+(1+al.length)≤10000000:=by
     have:=congrArg List.length TY;rw[aFb,aFb,List.length_cons] at this;lia
    walk_at"d";refine⟨.inl ⟨rfl,_,cT.of hg6⟩,_,.inl (cT.of hq6),_,hg6,?_,?_⟩
    ·rw[aFd,sizeLine_eq];lia
    rw[aFd];have hq7:(upd H6 g (.lst (dn.map V.int++[V.int (al.length:Nat)]))) q=some (.lst (al.map V.int)):=by rw[bF (Ne.symm nqg)];exact hq6
    refine⟨.inl ⟨rfl,_,cT.of a7⟩,g,q,_,_,rfl,rfl,a7,hq7,?_,?_⟩
    ·rw[aFb,aFd,aFd,List.length_cons,List.length_nil,sizeLine_eq];lia
    rw[dD];refine⟨t.length,?_,i6,hv6,(BrainNeutral.step st c0).1,f',cs',dn++((al.length:Int)::al),⟨?_,?_,?_,?_,G.nah,G.nag,?_,fun c hc=>G.bound c (aFk _ hc),?_⟩,by rw[O.rest]⟩
    ·rw[em,hd,List.length_cons];lia
    ·obtain⟨⟨dx6,hp6⟩,sq6,ne6⟩:=O.calls;refine⟨⟨dx6,by rw[bF npg];exact hp6⟩,?_,ne6⟩;rcases G.nag with nag | nag
     case inr=>exact nag _
     refine N9 (fun b o e eb _=>?_) sq6;rw[bF (by rw[eb];exact nag)];exact e
    ·rw[RU];exact O.house
    ·exact O.tabs.but dW hg6 trivial fun φ z=>by cases z
    ·rw[a7,aFC,List.map_cons,aFJ];rfl
    ·rw[O.rest];exact aEv
    ·rw[aFJ];exact TY
   ·have hi:ns.length≤i:=by
     refine aFA fun z=>c (aFc (by lia))
    have hrest:=G.rest;rw[List.drop_eq_nil_of_le hi] at hrest;have hcs:=BM.HL hrest;subst hcs;have TY:=G.due;rw[show PyFlat.told (PyFlat.played BrainNeutral.step st [])=[] from rfl,List.append_nil] at TY;have hg:=G.gl;rw[TY] at hg;exact hg
  ·rintro σ' H4 ⟨z,rfl,hg4⟩;walk_at"d";exact kq H4 g hg4
end
theorem aBl{K:W.Frag}{h:Heap}{mg:Str→Option Value}{n:Str}(X:K.In h)(G:h.Ns mainGlobals mg)(e:W.nsIn K mainGlobals n=some none):mg n=none:=by
 refine aQ G fun o es ep ho hd _ hf=>?_;unfold W.nsIn at e
 split at e
 ·rename_i c d es' n' sl q;have:=X _ _ q;rw[ho] at this;cases this;cases hd
  split at e
  ·cases e
  ·rename_i he;rw[←hf];unfold nsFind findBy;rw[←Array.find?_toList,he];rfl
 ·cases e
def aCo(a:Addr):Value→Bool
 | .ref b=>a==b
 | _=>false
theorem YQ{a:Addr}:∀ {v:Value},aCo a v=true→v= .ref a
 | .ref b,h=>congrArg Value.ref (eq_of_beq h).symm
def vIs:V→Value→Bool
 | .int i,u=>Value.isInt i u
 | .ref a,u=>aCo a u
 | _,_=>false
theorem QL{v:V}{u:Value}(h:vIs v u=true):RelV v u:=by
 cases v with
 | int i=>exact Value.isInt_shape h
 | ref a=>exact YQ h
 | _=>cases h
def keyB(k:Int):Value→Bool
 | .int j _=>k==j
 | _=>false
def XB:List (Int×V)→List DictEntry→Bool
 | [],[]=>true
 | p::r,e::es=>keyB p.1 e.key&&e.hash==hashInt p.1&&vIs p.2 e.val&&XB r es
 | _,_=>false
def isType(s:String):Value→Bool
 | .type x=>x==s
 | _=>false
theorem HB{s:String}:∀ {v:Value},isType s v=true→v= .type s
 | .type x,h=>by
  have e:x=s:=eq_of_beq h;rw[e]
def aBz(C:Addr)(o:Obj)(kvs:List (Int×V)):Bool:= !(C==sysModules)&&decide ((kvs.map (·.1)).Nodup)&&isType "dict" o.cls&&o.dict.isNone&&o.slots.isEmpty&&(match o.data with
 | .dict es _=>XB kvs es.toList
 | _=>false)
theorem XA:∀ {kvs:List (Int×V)} {es:List DictEntry},XB kvs es=true→∃ l:List (Int×Tok×Value),es=l.map (fun q=>(⟨hashInt q.1,.int q.1 q.2.1,q.2.2⟩:DictEntry))∧Paired (fun (p:Int×V) (q:Int×Tok×Value)=>p.1=q.1∧RelV p.2 q.2.2) kvs l
 | [],[],_=>⟨[],rfl,.nil⟩
 | p::r,e::es,h=>by
  unfold XB at h;rw[aFg,aFg,aFg] at h;obtain⟨⟨⟨h1,h2⟩,h3⟩,h4⟩:=h;refine aA (XA h4) fun l e1 e2=>?_;obtain⟨eh,ek,ev⟩:=e
  cases ek with
  | int j t=>
   have ej:p.1=j:=eq_of_beq h1;have eh':eh=hashInt p.1:=eq_of_beq h2;subst ej;subst eh';exact⟨(p.1,t,ev)::l,by rw[e1];rfl,.cons ⟨rfl,QL h3⟩ e2⟩
  | _=>cases h1
 | [],_::_,h=>by cases h
 | _::_,[],h=>by cases h
theorem aBy{K:W.Frag}{C:Addr}{o:Obj}{kvs:List (Int×V)}(l:K.lookup C=some o)(h:aBz C o kvs=true):KDI K C kvs:=by
 unfold aBz at h;simp only[aFg] at h;obtain⟨⟨⟨⟨⟨h1,h2⟩,h3⟩,h4⟩,h5⟩,h6⟩:=h;obtain⟨oc,od,dt,sl⟩:=o
 cases dt with
 | dict es ep=>
  refine aA (XA (show XB kvs es.toList=true from h6)) fun l2 e1 e2=>?_;refine⟨by simpa using h1,aFf h2,_,l2,ep,l,⟨HB h3,Option.isNone_iff_eq_none.mp h4,Array.isEmpty_iff.mp h5⟩,?_,e2⟩;show Data.dict es ep=_;rw[←e1]
 | _=>cases h6
def MY:List V→List Value→Bool
 | [],[]=>true
 | v::r,u::us=>vIs v u&&MY r us
 | _,_=>false
theorem EL:∀ {xs:List V} {us:List Value},MY xs us=true→Vals xs us
 | [],[],_=> .nil
 | v::r,u::us,h=>by
  unfold MY at h;rw[aFg] at h;exact .cons (QL h.1) (EL h.2)
 | [],_::_,h=>by cases h
 | _::_,[],h=>by cases h
def aAL(o:Obj)(xs:List V):Bool:=isType "tuple" o.cls&&(match o.data with
 | .seq its _=>decide (its.size≤sizeLine)&&MY xs its.toList
 | _=>false)
theorem aAJ{K:W.Frag}{C:Addr}{o:Obj}{xs:List V}(l:K.lookup C=some o)(h:aAL o xs=true)(H:Hp):gF K H C xs:=by
 unfold aAL at h;rw[aFg] at h;obtain⟨h1,h2⟩:=h;obtain⟨oc,od,dt,sl⟩:=o
 cases dt with
 | seq its n=>
  have h2':(decide (its.size≤sizeLine)&&MY xs its.toList)=true:=h2;rw[aFg] at h2';exact .inr ⟨_,its,n,l,HB h1,rfl,aFf h2'.1,EL h2'.2⟩
 | _=>cases h2
theorem PM{K:W.Frag}{h:Heap}{C:Addr}{o:Obj}{kvs:List (Int×V)}(X:K.In h)(l:K.lookup C=some o)(b:aBz C o kvs=true):KDI K C kvs:=aBy l b
theorem aAK{K:W.Frag}{h:Heap}{C:Addr}{o:Obj}{xs:List V}(X:K.In h)(l:K.lookup C=some o)(b:aAL o xs=true):∀ H,gF K H C xs:=aAJ l b
theorem aBM{K:W.Frag}{h:Heap}{C:Addr}(X:K.In h)(pg:W.plainGet K C Str.empty=true)(hd:W.hasDictIn K C=true)(po:W.plainOver K C=true)(sa:W.findIn K (.ref C) "__setattr__"=some (some (.builtin "object.__setattr__"))):Cls K C:=⟨pg,hd,po,sa⟩
theorem aBk{K:W.Frag}{h:Heap}{C:Addr}{f:Str}(X:K.In h)(e:W.findIn K (.ref C) f=some none):cS K C f:=e
theorem wZ{K:W.Frag}{h:Heap}{C:Addr}{m qual:Str}{st:Stmt}{ps:List Str}{f:Addr}{od an:Option Addr}{sl:Array (Option Value)}{oc kV dc pm cd ct:Value}(X:K.In h)
  (hb:∀ (kV doc pm:Value) (an:Option Addr) (cdv ct:Value) (us:List Value),us.length=ps.length→bindArgs (W.fnOf m qual (iL st) (cX st) (bC st) .none kV doc pm an cdv ct) ⟨us,[]⟩=pure (ps.zip us))
  (a:W.findIn K (.ref C) m=some (some (.ref f))) (i:W.isFn K (.ref f)=true) (l:K.lookup f=some ⟨oc,od,.func (W.fnOf m qual (iL st) (cX st) (bC st) .none kV dc pm an cd ct),sl⟩) (c:W.codeIn K cd qual=true) (k:W.keepIn K (.ref f)=true):pV K C m qual st ps:=ZE hb a i l c k
theorem Z5{K:W.Frag}{h:Heap}{mg:Str→Option Value}{x:Str}{st:Stmt}{ps:List Str}{f cc T:Addr}{od an:Option Addr}{sl:Array (Option Value)}{oc kV dc pm ct:Value}(X:K.In h)(G:h.Ns mainGlobals mg)
  (hb:∀ (kV doc pm:Value) (an:Option Addr) (cdv ct:Value) (us:List Value),us.length=ps.length→bindArgs (W.fnOf x x (iL st) (cX st) (bC st) .none kV doc pm an cdv ct) ⟨us,[]⟩=pure (ps.zip us))
  (a:W.nsIn K mainGlobals x=some (some (.ref f))) (l:K.lookup f=some ⟨oc,od,.func (W.fnOf x x (iL st) (cX st) (bC st) .none kV dc pm an (.ref cc) ct),sl⟩) (c:W.codeIn K (.ref cc) x=true) (k:W.keepIn K (.ref f)=true) (t:W.codeHdIn K cc T=true):NL K mg x st ps T:=by
 have F:=PV (st:=st) l c k;exact⟨f,_,cc,W.mg_of X G a,F,F.binds hb,rfl,t⟩
def kX:Lean.Ident:=Lean.mkIdent `KX
def kG:Lean.Ident:=Lean.mkIdent `G
theorem tk{K:W.Frag}{h:Heap}{T:W.Frag→Prop}(X:K.In h)(t:T K):T K:=t
theorem sY{P:Program}{w:World}{K:W.Frag}{mg:Str→Option Value}{base:Heap}{x:Str}{C:Addr}{ps:List Str}{k:Nat}{sp:Sp}(M:cV P w K mg base C "__init__" ps k sp)(hm:mg x=some (.ref C))(mk:W.makesIn K C=true)(kc:W.keepIn K (.ref C)=true):EV P w K mg base x C ps k sp:=by
 obtain⟨_,f,fd,h1,h2,h3⟩:=M;exact⟨hm,f,fd,⟨mk,h1.at_,h1.fn,kc⟩,h2,h3⟩
def b8:TL:=[(424,iQ (lC (cX oO)),"shorten.<locals>.<lambda>"),(431,iQ (lC (cX v7)),"scale.<locals>.<lambda>"),(438,iQ (lC (cX v6)),"shift.<locals>.<lambda>"),(459,iQ (lC (cX kQ)),"add_aside.<locals>.<lambda>"),(466,iQ (lC (cX fH)),"multiply_aside.<locals>.<lambda>")]
theorem KT:TabOk b8 424 (iQ (lC (cX oO))) "shorten.<locals>.<lambda>":=by
 refine⟨by unfold b8;simp,fun e he h=>?_⟩;unfold b8 at he;simp only[aEZ,List.not_mem_nil,or_false] at he;rcases he with rfl | rfl | rfl | rfl | rfl <;> first | rfl | exact absurd h (by decide)
theorem SJ:TabOk b8 431 (iQ (lC (cX v7))) "scale.<locals>.<lambda>":=by
 refine⟨by unfold b8;simp,fun e he h=>?_⟩;unfold b8 at he;simp only[aEZ,List.not_mem_nil,or_false] at he;rcases he with rfl | rfl | rfl | rfl | rfl <;> first | rfl | exact absurd h (by decide)
theorem SI:TabOk b8 438 (iQ (lC (cX v6))) "shift.<locals>.<lambda>":=by
 refine⟨by unfold b8;simp,fun e he h=>?_⟩;unfold b8 at he;simp only[aEZ,List.not_mem_nil,or_false] at he;rcases he with rfl | rfl | rfl | rfl | rfl <;> first | rfl | exact absurd h (by decide)
theorem E2:TabOk b8 459 (iQ (lC (cX kQ))) "add_aside.<locals>.<lambda>":=by
 refine⟨by unfold b8;simp,fun e he h=>?_⟩;unfold b8 at he;simp only[aEZ,List.not_mem_nil,or_false] at he;rcases he with rfl | rfl | rfl | rfl | rfl <;> first | rfl | exact absurd h (by decide)
theorem uM:TabOk b8 466 (iQ (lC (cX fH))) "multiply_aside.<locals>.<lambda>":=by
 refine⟨by unfold b8;simp,fun e he h=>?_⟩;unfold b8 at he;simp only[aEZ,List.not_mem_nil,or_false] at he;rcases he with rfl | rfl | rfl | rfl | rfl <;> first | rfl | exact absurd h (by decide)
end SD
open PySem PySem.W PyProof.Rows
local macro_rules | `(tactic| o_headS ($_f:term $k:term $a:term $e:term))=>`(tactic| o_headS (W.kmHook $k $a $e [424,431,438,459,466]))
local macro_rules | `(tactic| walk_at"a")=>`(tactic| (refine' SD.aCN $(SD.kX) $(SD.kG) ?e;(case e=>k_is)))
local macro_rules | `(tactic| walk_at"g")=>`(tactic| (refine' SD.aBl $(SD.kX) $(SD.kG) ?e;(case e=>k_is)))
local macro_rules | `(tactic| walk_at"3")=>`(tactic| (refine' W.mg_of $(SD.kX) $(SD.kG) ?e;(case e=>k_is)))
local macro_rules | `(tactic| walk_at"5")=>`(tactic| (refine' SD.aBk $(SD.kX) ?e;(case e=>k_is)))
local macro_rules | `(tactic| walk_at"i")=>`(tactic| (refine' SD.aBM $(SD.kX) ?a ?b ?c ?d;(case a=>k_is);(case b=>k_is);(case c=>k_is);(case d=>k_is)))
local macro_rules | `(tactic| walk_at"b")=>`(tactic| k_is)
local macro_rules | `(tactic| walk_at"7")=>`(tactic| (refine' SD.y0 $(SD.kX) $(SD.kG) (fun _ _ _ _ _ _=>SD.len1 fun _=>rfl) ?a ?l ?c ?k;(case a=>k_is);(case l=>k_is);(case c=>k_is);(case k=>k_is)))
local macro_rules | `(tactic| walk_at"h")=>`(tactic| (refine' SD.wZ $(SD.kX) (fun _ _ _ _ _ _=>SD.len1 fun _=>rfl) ?a ?i ?l ?c ?k;(case a=>k_is);(case i=>k_is);(case l=>k_is);(case c=>k_is);(case k=>k_is)))
local macro_rules | `(tactic| walk_at"4")=>`(tactic| (refine' SD.y0 $(SD.kX) $(SD.kG) (fun _ _ _ _ _ _=>SD.len2 fun _ _=>rfl) ?a ?l ?c ?k;(case a=>k_is);(case l=>k_is);(case c=>k_is);(case k=>k_is)))
local macro_rules | `(tactic| walk_at"k")=>`(tactic| (refine' SD.Z5 $(SD.kX) $(SD.kG) (fun _ _ _ _ _ _=>SD.len2 fun _ _=>rfl) ?a ?l ?c ?k ?t;(case a=>k_is);(case l=>k_is);(case c=>k_is);(case k=>k_is);(case t=>kernel_rfl)))
local macro_rules | `(tactic| walk_at"l")=>`(tactic| (refine' SD.wZ $(SD.kX) (fun _ _ _ _ _ _=>SD.len2 fun _ _=>rfl) ?a ?i ?l ?c ?k;(case a=>k_is);(case i=>k_is);(case l=>k_is);(case c=>k_is);(case k=>k_is)))
local macro_rules | `(tactic| walk_at"c")=>`(tactic| (refine' SD.y0 $(SD.kX) $(SD.kG) (fun _ _ _ _ _ _=>SD.aBp fun _ _ _=>rfl) ?a ?l ?c ?k;(case a=>k_is);(case l=>k_is);(case c=>k_is);(case k=>k_is)))
local macro_rules | `(tactic| walk_at"s")=>`(tactic| (refine' SD.wZ $(SD.kX) (fun _ _ _ _ _ _=>SD.aBp fun _ _ _=>rfl) ?a ?i ?l ?c ?k;(case a=>k_is);(case i=>k_is);(case l=>k_is);(case c=>k_is);(case k=>k_is)))
local macro_rules | `(tactic| walk_at"w")=>`(tactic| (refine' SD.y0 $(SD.kX) $(SD.kG) (fun _ _ _ _ _ _=>SD.ZH fun _ _ _ _=>rfl) ?a ?l ?c ?k;(case a=>k_is);(case l=>k_is);(case c=>k_is);(case k=>k_is)))
local macro_rules | `(tactic| walk_at"x")=>`(tactic| (refine' SD.wZ $(SD.kX) (fun _ _ _ _ _ _=>SD.ZH fun _ _ _ _=>rfl) ?a ?i ?l ?c ?k;(case a=>k_is);(case i=>k_is);(case l=>k_is);(case c=>k_is);(case k=>k_is)))
local macro_rules | `(tactic| walk_at"A")=>`(tactic| (refine' SD.y0 $(SD.kX) $(SD.kG) (fun _ _ _ _ _ _=>SD.aBo fun _ _ _ _ _=>rfl) ?a ?l ?c ?k;(case a=>k_is);(case l=>k_is);(case c=>k_is);(case k=>k_is)))
local macro_rules | `(tactic| walk_at"y")=>`(tactic| (refine' SD.y0 $(SD.kX) $(SD.kG) (fun _ _ _ _ _ _=>SD.aDU fun _ _ _ _ _ _=>rfl) ?a ?l ?c ?k;(case a=>k_is);(case l=>k_is);(case c=>k_is);(case k=>k_is)))
local macro_rules | `(command| #print "b")=>do
 let l:=(List.range 800).map (s!"o_{·}")++[11,83,157,169,213,269,344,367,423,509,549,593,649,733,770].map (s!"sts_{·}")++[9,82,156,166,212,268,343,366,422,508,546,592,648,732,769,780].map (s!"tree_{·}")++[1,8,783].map (s!"heap_{·}")++[1].map (s!"view_{·}")++[3].map (s!"env_{·}")
 let c ←(`PySem.Challenge.pw_shortrowsdesk_s01_answers::l.map ((`PySem.Challenge.cw_shortrowsdesk_s01_answers_holds).str ·)).toArray.mapM fun s=>do
  let i:=Lean.mkIdent (.mkStr4 "PySem" "W" "Fast" s!"tw{s.hash}")
  `(command| theorem $i:ident:True:=trivial)
 return Lean.mkNullNode c
#print "b"
set_option maxHeartbeats 0 in
theorem PySem.Challenge.cw_shortrowsdesk_s01_answers_holds : PySem.Challenge.rw_shortrowsdesk_s01_answers.Holds := by
 w_on;k_headS;(case hw=>exact⟨[.list [.int 3,.int 0]],by decide +kernel,by decide +kernel⟩)
 k_fillS
 refine SD.NS (r:=PySem.Challenge.rw_shortrowsdesk_s01_answers) (k:=11) (CX:=L2.R9) (ps:=["calls"]) (sp:=SD.uT SD.b8) (ts:=[424,431,438,459,466]) (by decide +kernel) rfl rfl ⟨rfl,by decide,by decide⟩ (fun w h Y=>⟨W.km_in_of Y,W.km_tabs_of Y⟩) ?TC ?TK ?F ?S (fun _ _ _ _ z=>z)
 case TC=>
  intro w T hT;simp only[aEZ,List.not_mem_nil,or_false] at hT;rcases hT with rfl | rfl | rfl | rfl | rfl
  ·exact⟨428,by kernel_rfl⟩
  ·exact⟨435,by kernel_rfl⟩
  ·exact⟨442,by kernel_rfl⟩
  ·exact⟨463,by kernel_rfl⟩
  ·exact⟨470,by kernel_rfl⟩
 case TK=>
  intro w T hT;simp only[aEZ,List.not_mem_nil,or_false] at hT;rcases hT with rfl | rfl | rfl | rfl | rfl <;> kernel_rfl
 case F=>
  intro w mg fa h Y KX G hmg base hB _ bb;generalize PySem.Challenge.rw_shortrowsdesk_s01_answers.prog=P;have kB:=by (refine' SD.PM (C:=157) (kvs:=SD.BO) KX ?l ?b);(case l=>k_is);(case b=>kernel_rfl)
  have kL:=by (refine' SD.PM (C:=528) (kvs:=[(0,.ref 403),(1,.ref 408),(2,.ref 422),(3,.ref 429),(4,.ref 450),(5,.ref 464),(6,.ref 471),(7,.ref 436),(8,.ref 443),(9,.ref 478),(10,.ref 485),(11,.ref 499),(12,.ref 506),(13,.ref 513),(14,.ref 520),(15,.ref 527)]) KX ?l ?b);(case l=>k_is);(case b=>kernel_rfl)
  have kC:=by (refine' SD.PM (C:=742) (kvs:=[(0,.ref 619),(1,.ref 624),(2,.ref 629),(3,.ref 636),(4,.ref 643),(5,.ref 650),(6,.ref 657),(7,.ref 664),(8,.ref 678),(9,.ref 685),(10,.ref 692),(11,.ref 699),(12,.ref 706),(13,.ref 713),(14,.ref 720),(15,.ref 727),(16,.ref 734),(17,.ref 741)]) KX ?l ?b);(case l=>k_is);(case b=>kernel_rfl)
  have sM:=by (refine' SD.aAK (C:=156) (xs:=[.int 66,.int 82,.int 78,.int 49]) KX ?l ?b);(case l=>k_is);(case b=>kernel_rfl)
  have tH:=SD.tk (T:=(SD.tJ · mg)) KX ⟨⟨⟨⟨by walk_at"a",by walk_at"a",by walk_at"a",by walk_at"a",by walk_at"a",by walk_at"a",by walk_at"g",by walk_at"g",by walk_at"g"⟩,by walk_at"a",by walk_at"a"⟩,by walk_at"a",by walk_at"a",by walk_at"a",by walk_at"a",by walk_at"a",by walk_at"a",⟨157,by walk_at"3",kB⟩,⟨156,by walk_at"3",sM⟩,by walk_at"g",by walk_at"g",by walk_at"g",by walk_at"g"⟩,by walk_at"a",by walk_at"a",by walk_at"a",by walk_at"a",by walk_at"a"⟩;have tN:=tH.tosE;have tM:=tN.toJ1;have t:=tM.toTxt;have tP:SD.UC _ mg:=⟨tM,tH.NOT_AS_TOLD⟩;have tW:=SD.tk (T:=(SD.hU · 202)) KX ⟨by walk_at"i",by walk_at"5",by walk_at"5",by walk_at"5",by walk_at"5",by walk_at"5",by walk_at"5",by walk_at"5",by walk_at"5",by walk_at"5",by walk_at"5",by walk_at"5",by walk_at"5"⟩;have tL:=SD.tk (T:=(SD.mW · 223)) KX ⟨by walk_at"i",by walk_at"5",by walk_at"5",by walk_at"5",by walk_at"5",by walk_at"5",by walk_at"5",by walk_at"5",by walk_at"5"⟩;have tI:=SD.tk (T:=(SD.lN · 350)) KX ⟨by walk_at"i",by walk_at"5",by walk_at"5",by walk_at"5",by walk_at"5",by walk_at"5"⟩;have tR:=SD.tk (T:=(SD.kS · 378)) KX ⟨by walk_at"i",by walk_at"5",by walk_at"5",by walk_at"5",by walk_at"5"⟩;have tC:=SD.tk (T:=(SD.UD · 608)) KX ⟨by walk_at"i",by walk_at"5",by walk_at"5"⟩;have XX:=SD.tk (T:=(SD.sF · 566)) KX ⟨by walk_at"i",by walk_at"5"⟩;have one:SD.GI mg "ONE" 16256:=by walk_at"a"
  have EX:=fun b=>SD.S2 (P:=P) (w:=w) (base:=b) (by walk_at"7") t;have xW:=EX base;have uI:=fun b=>SD.DN (P:=P) (w:=w) (base:=b) (by walk_at"7") t;have kK:=uI base;have j4:=fun b=>SD.wS (P:=P) (w:=w) (base:=b) (by walk_at"7") t;have fR:=j4 base;have KI:=fun b=>SD.VX (P:=P) (w:=w) (base:=b) (by walk_at"7");have nM:=KI base;have sL:=fun b=>SD.SY (P:=P) (w:=w) (base:=b) (by walk_at"7") t (EX b) (j4 b);have eP:=sL base;have uH:=fun b=>SD.DK (P:=P) (w:=w) (base:=b) (by walk_at"c") t (EX b) (uI b) (j4 b);have uF:=uH base;have HW:=fun b=>SD.OX (P:=P) (w:=w) (base:=b) (by walk_at"7") t;have HS:=HW base;have EW:=fun b=>SD.Y2 (P:=P) (w:=w) (base:=b) (by walk_at"c") t (KI b) (uH b) (HW b);have gQ:=EW base;have J3:=SD.Y3 (P:=P) (w:=w) (base:=base) (by walk_at"7") t;have eN:=SD.wR (by walk_at"c") t J3;have gX:=SD.OW (by walk_at"c") t gQ;have c7:=SD.O2 (P:=P) (w:=w) (base:=base) (by walk_at"7") tM;have j0:=SD.LT (P:=P) (w:=w) (base:=base) (by walk_at"7");have cK:=SD.E8 (by walk_at"4") tM j0;have eA:=SD.DH (by walk_at"c") tM j0;have J2:=SD.VY (by walk_at"c") tM cK eA;have zJ:=SD.OU (by walk_at"c") tM eA;have fQ:=SD.AV (by walk_at"c") tM eA;have zK:=SD.OY (by walk_at"y") tM fQ gX;have KG:=SD.FM (P:=P) (w:=w) (base:=base) (mg:=mg) (by walk_at"l") tC;have KH:=SD.sY (x:="Calls") KG (by walk_at"3") (by walk_at"b") (by walk_at"b");have vK:=SD.L3 (P:=P) (w:=w) (base:=base) (by walk_at"h") tC t;have bE:=SD.DI (P:=P) (w:=w) (base:=base) (mg:=mg) (by walk_at"h") tC;have bR:=SD.LS (by walk_at"h") tC bE;have M3:=SD.IW (by walk_at"4") bE gQ;have FU:=SD.DP (by walk_at"4") bR eP;have J4:=SD.FD (by walk_at"4") bR nM;have A7:=SD.yT (by walk_at"4") tP bR eN;have QE:=SD.L0 (by walk_at"4") tP bE bR gX;have J5:=SD.FE (by walk_at"4") tP bE bR c7 J2;have ER:=SD.AZ (by walk_at"4") tP bE bR cK c7 zJ;have ES:=SD.A1 (by walk_at"4") tP bE bR cK c7 zK;have i7:=SD.IS (P:=P) (w:=w) (base:=base) (by walk_at"4");have cR:=SD.FJ (P:=P) (w:=w) (base:=base) (mg:=mg) (by walk_at"h") tW;have dX:=SD.JC (by walk_at"l") tW i7;have fW:=SD.yU (by walk_at"h") tW tN dX;have gR:=SD.IU (by walk_at"7") tN tW cR dX c7 cK;have dH:=SD.IT (by walk_at"7") tN tW cR dX;have jJ:=SD.uZ (by walk_at"7") tN tW cR dX c7 dH;have jK:=SD.u0 (by walk_at"7") tN tW cR;have j1:=SD.wQ (by walk_at"7") tN tW cR;have k8:=SD.yQ (by walk_at"7") tW dX fW;have gA:=SD.DL (by walk_at"7") tW cR fW;have xV:=SD.V1 (P:=P) (w:=w) (base:=base) (by walk_at"7") tN tW;have zL:=SD.OZ (by walk_at"7") tN tW cR fW dH xV;have oC:=SD.DM (by walk_at"7") tN tW cR gR jJ jK j1 k8 gA;have mS:=SD.AX (by walk_at"7") tN tW cR dX;have mT:=SD.AY (by walk_at"7") tN tW dX cK fQ;have mR:=SD.AW (by walk_at"7") tN tW dX cK;have KA:=SD.FK (by walk_at"l") tN tW tL cR dH mS mT mR;have KC:=SD.sY (x:="Layer") KA (by walk_at"3") (by walk_at"b") (by walk_at"b");have NC:=SD.JD (by walk_at"s") tN tW i7;have QG:=SD.sY (x:="Walk") NC (by walk_at"3") (by walk_at"b") (by walk_at"b");have pU:=SD.FB (by walk_at"7") tN tW tL cR gR dH gA zL KC;have EO:=SD.SZ (by walk_at"4") tN tW c7 oC pU QG;have UG:=SD.O3 (P:=P) (w:=w) (base:=base) (by walk_at"7") t hB;have sI:=SD.IQ (P:=P) (w:=w) (base:=base) (by walk_at"7");have jI:=SD.E9 (P:=P) (w:=w) (base:=base) (by walk_at"c") t;have FT:=SD.DJ (P:=P) (w:=w) (base:=base) (Ts:=SD.b8) (by walk_at"4") tI tR tL;have M0:=SD.IR (P:=P) (w:=w) (base:=base) (Ts:=SD.b8) (by walk_at"4") tI tR tL t;have aDb:=SD.aBi (P:=P) (w:=w) (base:=base) (Ts:=SD.b8) (by walk_at"4") tI tR tL t;have A5:=SD.yR (Ts:=SD.b8) (by walk_at"4") tI tR tL sI eN;have J9:=SD.FI (P:=P) (w:=w) (base:=base) (Ts:=SD.b8) (by walk_at"4") tI tR tL;have QC:=SD.LX (P:=P) (w:=w) (base:=base) (Ts:=SD.b8) (by walk_at"4") tI tR tL;have QB:=SD.LU (Ts:=SD.b8) (by walk_at"4") tI tR tL t eP gX;have A6:=SD.yS (Ts:=SD.b8) (by walk_at"4") tI tR tL jI;have kM:=fun b=>SD.DO (P:=P) (w:=w) (base:=b) (Ts:=SD.b8) (by walk_at"4") tR tI t;have eB:=kM base;have iA:=fun b=>SD.rM (P:=P) (w:=w) (base:=b) (Ts:=SD.b8) (by walk_at"4") tR tI t;have fE:=iA base;have aAf:=SD.V3 (Ts:=SD.b8) (by walk_at"4") tI tR tL eB UG;have UF:=SD.OV (P:=P) (w:=w) (base:=base) (Ts:=SD.b8) (by walk_at"k") tI tR tL bb SD.KT kM KI sL;have aAd:=SD.V0 (P:=P) (w:=w) (base:=base) (Ts:=SD.b8) (by walk_at"k") tI tR tL bb SD.SJ kM EW sL;have aAc:=SD.VZ (P:=P) (w:=w) (base:=base) (Ts:=SD.b8) (by walk_at"k") tI tR tL bb SD.SI kM EW one;have M9:=SD.JB (P:=P) (w:=w) (base:=base) (Ts:=SD.b8) (by walk_at"k") tI tR tL bb SD.E2 iA EW sL one;have zM:=SD.wP (P:=P) (w:=w) (base:=base) (Ts:=SD.b8) (by walk_at"k") tI tR tL bb SD.uM iA EW sL;have FW:=SD.DQ (P:=P) (w:=w) (base:=base) (mg:=mg) (by walk_at"s") tI;have pC:=SD.sY (x:="Inside") FW (by walk_at"3") (by walk_at"b") (by walk_at"b");have EN:=SD.O5 (P:=P) (w:=w) (base:=base) (mg:=mg) (Ts:=SD.b8) (CI:=350) (by walk_at"h") tR;have QD:=SD.LZ (P:=P) (w:=w) (base:=base) (Ts:=SD.b8) (CI:=350) (by walk_at"4") tR;have aAe:=SD.V2 (Ts:=SD.b8) (by walk_at"4") tR tI tL tW pC;have QH:=SD.L4 (CL:=223) (by walk_at"x") t tR tI tW pC;have HU:=SD.sY (x:="Run") QH (by walk_at"3") (by walk_at"b") (by walk_at"b");have LO:SD.NF P w _ mg base [(0,.ref 403),(1,.ref 408),(2,.ref 422),(3,.ref 429),(4,.ref 450),(5,.ref 464),(6,.ref 471),(7,.ref 436),(8,.ref 443),(9,.ref 478),(10,.ref 485),(11,.ref 499),(12,.ref 506),(13,.ref 513),(14,.ref 520),(15,.ref 527)] 202 223 350 378 SD.b8:=⟨⟨_,rfl,(QD.at (by walk_at"3")).mono (by decide)⟩,⟨_,rfl,(QB.at (by walk_at"3")).mono (by decide)⟩,⟨_,rfl,(aAf.at (by walk_at"3")).mono (by decide)⟩,⟨_,rfl,(UF.at (by walk_at"3")).mono (by decide)⟩,⟨_,rfl,(M0.at (by walk_at"3")).mono (by decide)⟩,⟨_,rfl,(M9.at (by walk_at"3")).mono (by decide)⟩,⟨_,rfl,(zM.at (by walk_at"3")).mono (by decide)⟩,⟨_,rfl,(aAd.at (by walk_at"3")).mono (by decide)⟩,⟨_,rfl,(aAc.at (by walk_at"3")).mono (by decide)⟩,⟨_,rfl,(aAe.at (by walk_at"3")).mono (by decide)⟩,⟨_,rfl,(aDb.at (by walk_at"3")).mono (by decide)⟩,⟨_,rfl,(A6.at (by walk_at"3")).mono (by decide)⟩,⟨_,rfl,(FT.at (by walk_at"3")).mono (by decide)⟩,⟨_,rfl,(A5.at (by walk_at"3")).mono (by decide)⟩,⟨_,rfl,(J9.at (by walk_at"3")).mono (by decide)⟩,⟨_,rfl,(QC.at (by walk_at"3")).mono (by decide)⟩⟩;have j3:=SD.LY (P:=P) (w:=w) (base:=base) (Ts:=SD.b8) (by walk_at"7") tR tI tL tW (by walk_at"3") kL LO;have gY:=SD.FA (Ts:=SD.b8) (by walk_at"c") t tR HU j3 EN;have zI:=SD.OT (Ts:=SD.b8) (by walk_at"w") t tR tI HU j3 EN;have KE:=SD.FL (P:=P) (w:=w) (base:=base) (by walk_at"h") tH XX;have KF:=SD.sY (x:="House") KE (by walk_at"3") (by walk_at"b") (by walk_at"b");have d7:=SD.O0 (P:=P) (w:=w) (base:=base) (CL:=223) (C:=202) (by walk_at"l") tH XX;have gZ:=SD.FC (P:=P) (w:=w) (base:=base) (CL:=223) (C:=202) (by walk_at"l") tH XX;have EQ:=SD.S1 (P:=P) (w:=w) (base:=base) (by walk_at"4") tH;have dE:=SD.LW (by walk_at"c") tH XX EO;have J8:=SD.FH (Ts:=SD.b8) (by walk_at"4") bE bR dE;have M1:=SD.IV (Ts:=SD.b8) (by walk_at"4") tH tW bE bR dE;have J7:=SD.FG (Ts:=SD.b8) (by walk_at"4") tH tW tL bE bR dE;have M8:=SD.JA (Ts:=SD.b8) (by walk_at"4") tH XX bE d7 gZ;have M5:=SD.IY (Ts:=SD.b8) (by walk_at"4") tH XX tW bE d7;have M6:=SD.IZ (Ts:=SD.b8) (by walk_at"4") tH XX bE bR dE gZ;have M7:=SD.I0 (Ts:=SD.b8) (by walk_at"4") tH tW bE bR dE EQ;have QF:=SD.L1 (Ts:=SD.b8) (by walk_at"4") tH XX tW bE bR d7 gY;have J6:=SD.FF (Ts:=SD.b8) (by walk_at"4") tH XX tW bE bR d7 zI;have M4:=SD.IX (Ts:=SD.b8) (by walk_at"4") tH XX tW bE bR d7 gY;have CO:=SD.tk (T:=(SD.R8 P w · mg base [(0,.ref 619),(1,.ref 624),(2,.ref 629),(3,.ref 636),(4,.ref 643),(5,.ref 650),(6,.ref 657),(7,.ref 664),(8,.ref 678),(9,.ref 685),(10,.ref 692),(11,.ref 699),(12,.ref 706),(13,.ref 713),(14,.ref 720),(15,.ref 727),(16,.ref 734),(17,.ref 741)] 608 566 202 223 SD.b8)) KX (by
   intro n h0 h17;rcases BM.UZ h0 h17 with rfl | rfl | rfl | rfl | rfl | rfl | rfl | rfl | rfl | rfl | rfl | rfl | rfl | rfl | rfl | rfl | rfl | rfl
   ·exact⟨_,rfl,(SD.iU (by decide) (by decide) (M3.mono (by decide))).at (by walk_at"3")⟩
   ·exact⟨_,rfl,(SD.iU (by decide) (by decide) (FU.mono (by decide))).at (by walk_at"3")⟩
   ·exact⟨_,rfl,(SD.iU (by decide) (by decide) (J4.mono (by decide))).at (by walk_at"3")⟩
   ·exact⟨_,rfl,(SD.iU (by decide) (by decide) (A7.mono (by decide))).at (by walk_at"3")⟩
   ·exact⟨_,rfl,(SD.iU (by decide) (by decide) (QE.mono (by decide))).at (by walk_at"3")⟩
   ·exact⟨_,rfl,(SD.iU (by decide) (by decide) (J5.mono (by decide))).at (by walk_at"3")⟩
   ·exact⟨_,rfl,(SD.iU (by decide) (by decide) (ER.mono (by decide))).at (by walk_at"3")⟩
   ·exact⟨_,rfl,(SD.iU (by decide) (by decide) (ES.mono (by decide))).at (by walk_at"3")⟩
   ·exact⟨_,rfl,J8.at (by walk_at"3")⟩
   ·exact⟨_,rfl,M1.at (by walk_at"3")⟩
   ·exact⟨_,rfl,J7.at (by walk_at"3")⟩
   ·exact⟨_,rfl,M7.at (by walk_at"3")⟩
   ·exact⟨_,rfl,M6.at (by walk_at"3")⟩
   ·exact⟨_,rfl,M8.at (by walk_at"3")⟩
   ·exact⟨_,rfl,M5.at (by walk_at"3")⟩
   ·exact⟨_,rfl,QF.at (by walk_at"3")⟩
   ·exact⟨_,rfl,M4.at (by walk_at"3")⟩
   ·exact⟨_,rfl,J6.at (by walk_at"3")⟩)
  have UH:=SD.O4 (Ts:=SD.b8) (by walk_at"7") tH KF KH vK bE (by walk_at"3") kC CO;obtain⟨f,fd,hm,_,bd,FO⟩:=UH;have ef:fa=f:=by
   have e:=hmg.symm.trans hm;injection e with e
   injection e
  subst ef;exact⟨fd,bd,FO⟩
 case S=>
  intro K H xs a hO hwi aBE hx
  cases hx with
  | cons h1 h2=>
   cases h2
   cases h1 with
   | lst hs ha=>
    have e:=L2.RO a.1 _ ha;subst e;have q:((Codec.inLen 0 30000 a.1&&a.1.all (Codec.inInt 0 4294967295))&&true)=true:=hwi;rw[aFg,aFg] at q;refine⟨_,a.1,rfl,hs,fun e he=> .inl (hO.tab _ ?_),aBE,(Codec.inNat_iff.mp q.1.1).2,fun H' p hp=> .lst (L2.cT.of hp) (L2.RT _)⟩;unfold SD.b8 at he;simp only[aEZ,List.not_mem_nil,or_false] at he;rcases he with rfl | rfl | rfl | rfl | rfl <;> simp
