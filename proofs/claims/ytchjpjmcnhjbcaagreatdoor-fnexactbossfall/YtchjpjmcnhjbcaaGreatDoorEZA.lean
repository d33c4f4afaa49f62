import Derived.Test.YtchjpjmcnhjbcaaGreatDoorEP1
import Derived.Laws.BitsAllLaws
import Derived.Deep.RegionLaw
import Derived.Deep.RegionHeld3
import Derived.Laws.Cover1
set_option linter.unusedVariables false
set_option maxRecDepth 100000
set_option maxHeartbeats 8000000
namespace Go.Proofs.YtchjpjmcnhjbcaaGreatDoor
open Proofs.Tryz Go.RowKit
variable {l:List UInt8} {s:BY} {P:Prop} {w w':World} {a:OA} {v:Value} {b n:Nat}
def iZ (W:Int) (g:G3):Prop:=Y5 g.tl.data.toList=true/\(g.ar.size:Int)=W
def kG (W:Int) (x:R3):Prop:=(x.key.size<=321/\(x.out.size:Int)=W/\x.gs.length<=15)/\∀ i,i<x.gs.length->iZ W (x.gs.getD i Vg)
def YZ (W:Int) (rs:List R3):Prop:=rs.length<=150/\∀ i,i<rs.length->kG W (rs.getD i f_)
def StepT (ts:LB) (W:Int) (k:Nat):Prop:=(∃ c t,fD (ts.getD k ByteArray.empty).data.toList c t true)/\(k=0\/Op.bytesLess (Z5 (ts.getD (k - 1) ByteArray.empty) W).toList (Z5 (ts.getD k ByteArray.empty) W).toList=true)
def IK (ts:LB) (W:Int):Prop:=ts.length<=300/\∀ k,k<ts.length->StepT ts W k
def Xg (s:St):Prop:=(1<=s.wd/\s.wd<=8)/\IK s.ts s.wd/\YZ s.wd s.rs
theorem fQ {t:List UInt8} {c:Int} {ok:Bool} (h:fD l c t ok):ok=true↔∃ c t,fD l c t true:=by
 constructor
 · rintro rfl;exact ⟨c,t,h⟩
 · rintro ⟨c',t',a⟩;exact (WJ h a).2.2
theorem Lp {n:Int} (h:1<=n/\n<=8):(Z5 s n).size=n.toNat:=by
 unfold Z5;rw [if_pos h,strOfNums_size,Ho]
def Rb (P:Prop) (e:Ending):Prop:=∃ b:Bool,e=.returned (.bool b)/\(b=true↔P)
theorem G5 (h:¬ P):Rb P (.returned (.bool false)):=⟨false,rfl,(fun h=>by cases h),fun p=>absurd p h⟩
theorem u_ (h:P):Rb P (.returned (.bool true)):=⟨true,rfl,fun _=>h,fun _=>rfl⟩
structure L4 where
 has:Bool
 nm:BY
 cd:Int
 tx:BY
def E_:L4:=⟨false,⟨#[]⟩,0,⟨#[]⟩⟩
def L4.le (x:L4) (B:Nat):Prop:=x.nm.size<=B/\x.tx.size<=B
def o9 (w:World) (a:OA) (is:List L4):Prop:=
 is=[]\/∃ b off,a=some ⟨b,off,none⟩/\b<w.heap.size/\∀ i,i<is.length->w.cell? ⟨b,off+i*4,none⟩=some (.bool (is.getD i E_).has)/\w.cell? ⟨b,off+i*4+1,none⟩=some (.string (is.getD i E_).nm)/\w.cell? ⟨b,off+i*4+2,none⟩=some (.int .i64 (is.getD i E_).cd)/\w.cell? ⟨b,off+i*4+3,none⟩=some (.string (is.getD i E_).tx)
theorem xg {is:List L4} (h:o9 w a is):∃ b off,(is=[]\/(a=some ⟨b,off,none⟩/\b<w.heap.size/\∀ i,i<is.length->w.cell? ⟨b,off+i*4,none⟩=some (.bool (is.getD i E_).has)/\w.cell? ⟨b,off+i*4+1,none⟩=some (.string (is.getD i E_).nm)/\w.cell? ⟨b,off+i*4+2,none⟩=some (.int .i64 (is.getD i E_).cd)/\w.cell? ⟨b,off+i*4+3,none⟩=some (.string (is.getD i E_).tx))):=by
 rcases h with h | ⟨b,off,h⟩
 · exact ⟨0,0,.inl h⟩
 · exact ⟨b,off,.inr h⟩
theorem l7 {is:List L4} (h:o9 w a is) (c:Bw w w'):o9 w' a is:=by
 rcases h with h | ⟨b,off,h1,h2,e⟩
 · exact .inl h
 · exact .inr ⟨b,off,h1,O9 h2 c.size,fun i d=>by rw [c.cell (by exact h2),c.cell (by exact h2),c.cell (by exact h2),c.cell (by exact h2)];exact e i d⟩
theorem Ub {t:BY} (h:¬ s=t):¬ s.toList=t.toList:=fun e=>h (by
 apply Df;rw [ByteArray.toList_eq,ByteArray.toList_eq] at e;exact Yk.1 e)
theorem vG {a b:List G3} (c:a.length=b.length) (h:∀ j,j<a.length->a.getD j Vg=b.getD j Vg):a=b:=by
 refine Vy c fun j h1 h2=>?_;have:=h j h1;simpa [List.getD,Z8 h1,Z8 h2] using this
theorem c97 (x y:R3) (D C:OA) (L K:Nat) (w:World) (hl:x.gs.length<=1048576) (hl':y.gs.length<=1048576) (J:R_ w D x.gs) (I:R_ w C y.gs):
 Calls prog 97 #[.agg #[.string x.key,.slice D x.gs.length L,.string x.out],.agg #[.string y.key,.slice C y.gs.length K,.string y.out]] w fun e w'=>Rb (x=y) e/\Bw w w':=by
 obtain ⟨g,a,f⟩:=x;obtain ⟨t,c,s⟩:=y;simp only at hl hl' J I ⊢;obtain ⟨V,hV⟩:∃ V,V=((w.alloc (.cells #[vS g,vL D a.length L,vS f] 145)).alloc (.cells #[vS t,vL C c.length K,vS s] 145)):=⟨_,rfl⟩;have q:Bw w V:=by rw [hV];exact P6.alloc X4 _
 have hz:V.heap.size=w.heap.size+2:=by rw [hV];simp
 have a1:V.cell? (aW w 1)=some (vL D a.length L):=by rw [hV];simp [go_sem]
 have S:V.cell? (aA (w.heap.size+1) 1)=some (vL C c.length K):=by rw [hV];simp [go_sem]
 have R:=P8 J q;have Q:=P8 I q;have r:=U0 hV;clear hV J I;by_cases u:g=t
 · by_cases ho:f=s
   · by_cases l:a.length=c.length
     · rw [<- l];rw [<- l] at S;subst u;subst ho;rw [<- l] at r;have v:=U0 l;clear l;obtain ⟨b,off,hc⟩:=Ph R;obtain ⟨b',E,P⟩:=Ph Q;have HC:=U0 hc;have HC':=U0 P;clear hc P R Q;go_enter func97,ntmps97
       go_wp2_with fail
       rw [<- r.out];clear r;go_loopw [5] (fun i wr=>∃ (k:Nat),k<=a.length/\i=.int .i64 k/\Hid (∀ j,j<k->a.getD j Vg=c.getD j Vg)/\Below V.heap.size V wr) (fun i _=>a.length - (RowKit.intOf i).toNat)
       case atStart=>exact ⟨0,J4 _,rfl,fun j h=>absurd h (J8 _),Z4 _ _⟩
       case round=>
        obtain ⟨k,hk2,rfl,hd,d⟩:=hrel;have B:=X5 q d;have e1:=(d.cell (p:=(aW w 1)) (show w.heap.size<V.heap.size by omega)).trans a1;have e2:=(d.cell (p:=(aA (w.heap.size+1) 1)) (show w.heap.size+1<V.heap.size by omega)).trans S;by_cases o:k<a.length
        · obtain ⟨ha,H,A⟩:=Cc HC.out o;rcases HC'.out with hss | ⟨ha',F,z⟩
          · have l:=v.out;rw [hss] at l;rw [l] at o;exact absurd o (J8 _)
          subst ha;subst ha';have g0:=(d.cell (p:=(aA b (off+k*3))) H).trans (A k o).1;have g1:=(d.cell (p:=(aA b (off+k*3+1))) H).trans (A k o).2.1;have g2:=(d.cell (p:=(aA b (off+k*3+2))) H).trans (A k o).2.2;have g0':=(d.cell (p:=(aA b' (E+k*3))) F).trans (z k (by have:=v.out;omega)).1;have g1':=(d.cell (p:=(aA b' (E+k*3+1))) F).trans (z k (by have:=v.out;omega)).2.1;have g2':=(d.cell (p:=(aA b' (E+k*3+2))) F).trans (z k (by have:=v.out;omega)).2.2;clear A z;by_cases n:a.getD k Vg=c.getD k Vg
          · have HD:Hid (∀ j,j<k+1->a.getD j Vg=c.getD j Vg):=fun j hj=>by
             rcases Q7 j k with h | h
             · exact hd.out j h
             · obtain rfl:j=k:=O0;exact n
            rw [<- n] at g0' g1' g2';generalize a.getD k Vg=X at*;clear n hd
            go_wp2_with fail
            go_region
            all_goals go_wp2
            all_goals go_roundw
            all_goals first
             | exact ⟨k+1,O0,by go_num,HD,d.drew⟩
             | (simp [RowKit.intOf];omega)
          · have m:Hid (¬ R3.mk g a f=R3.mk g c f):=fun h=>n (by injection h with _ h2;rw [h2]);generalize a.getD k Vg=X at*;generalize c.getD k Vg=Y at*;obtain ⟨n1,t1,W⟩:=X;obtain ⟨n2,t2,U⟩:=Y;by_cases O:n1=n2
            · subst O;by_cases N:t1=t2
              · subst N;have Z:¬ W=U:=fun h=>n (by rw [h]);have q3':=Ub Z;clear n
                go_wp2_with fail
                go_region
                all_goals go_wp2
                all_goals go_ret
                all_goals exact ⟨G5 m.out,B.drew⟩
              · have q2':=Ub N;clear n
                go_wp2_with fail
                go_region
                all_goals go_wp2
                all_goals go_ret
                all_goals exact ⟨G5 m.out,B.drew⟩
            · have q1':(n1==n2)=false:=by simpa using O
              clear n
              go_wp2_with fail
              go_region
              all_goals go_wp2
              all_goals go_ret
              all_goals exact ⟨G5 m.out,B.drew⟩
        · obtain rfl:k=a.length:=O0;have HY:Hid (R3.mk g a f=R3.mk g c f):=by
           show R3.mk _ _ _=R3.mk _ _ _;rw [vG v.out hd.out]
          go_wp2;go_ret;exact ⟨u_ HY.out,B⟩
     · have m:Hid (¬ R3.mk g a f=R3.mk t c s):=fun h=>l (by injection h with _ h2;rw [h2]);subst u;subst ho;have hn1:¬ (a.length:Int)=c.length:=O0;go_enter func97,ntmps97
       go_wp2_with fail
       rw [<- r.out];go_ret;exact ⟨G5 m.out,q⟩
   · have m:Hid (¬ R3.mk g a f=R3.mk t c s):=fun h=>ho (by injection h);subst u;have ho1:=Ub ho;go_enter func97,ntmps97;go_wp2;go_ret;rw [<- r.out];exact ⟨G5 m.out,q⟩
 · have m:Hid (¬ R3.mk g a f=R3.mk t c s):=fun h=>u (by injection h);have hk1:=Ub u;go_enter func97,ntmps97;go_wp2;go_ret;rw [<- r.out];exact ⟨G5 m.out,q⟩
def H_ (c:UInt8):Bool:=decide (32<=(c.toNat:Int))&&decide ((c.toNat:Int)<=126)&&!((c.toNat:Int)==34)&&!((c.toNat:Int)==92)
theorem Qj {a b:BY} (h:a=b):Ending.returned (.string a)=.returned (.string b):=by rw [h]
def hexL:List UInt8:=[48,49,50,51,52,53,54,55,56,57,97,98,99,100,101,102]
def Gw:BY:=⟨#[48,49,50,51,52,53,54,55,56,57,97,98,99,100,101,102]⟩
theorem BK (n:Nat) (h:n<Gw.size):Gw[n]=hexL.getD n 0:=by
 have h':n<16:=h;obtain rfl | rfl | rfl | rfl | rfl | rfl | rfl | rfl | rfl | rfl | rfl | rfl | rfl | rfl | rfl | rfl:n=0\/n=1\/n=2\/n=3\/n=4\/n=5\/n=6\/n=7\/n=8\/n=9\/n=10\/n=11\/n=12\/n=13\/n=14\/n=15:=O0
 all_goals rfl
def qb (c:UInt8):List UInt8:=if H_ c=true then [c] else [92,hexL.getD (c.toNat / 16) 0,hexL.getD (c.toNat % 16) 0]
def P5 (l:List UInt8):List UInt8:=34::(l.flatMap qb++[34])
theorem wZ (c:UInt8):(qb c).length<=3:=by unfold qb;split <;> simp
theorem yt (l:List UInt8):(l.flatMap qb).length<=3*l.length:=by
 induction l with
 | nil=>simp
 | cons c l ih=>have:=wZ c;simp only [vg,D9,o_];omega
theorem O_ (l r:List UInt8):Lib.byteCells (l++r)=Lib.byteCells l++Lib.byteCells r:=by simp [Lib.byteCells]
theorem Yo (l:List UInt8):(Lib.byteCells l).length=l.length:=by simp [Lib.byteCells]
theorem Ur {P:Program} {ops:Array Oper} {o:Oper} {a:Act} {K:Act->World->Prop} {Q:Exit->Act->World->Prop} {E:Prop}
 (r:o.guard=none) (s x:Operand) (t:TypeId) (p:o.op=Op.call { callee:=Callee.builtin Builtin.append,args:=#[s,x],argTypes:=#[t,t] })
 (base:Nat) (e:TypeId) (i:TypeInfo) (z:Value) (size bytes:Nat) (h1:P.underlying t=some (.slice e)) (h2:P.info? e=some i) (H:i.zero=some z) (F:i.size=size) (D:i.bytes=bytes) (C:z.cells.size=size) (B:0<size)
 (v:Value) (n:Nat) (xs:List Value) (h:a.eval s=v) (l:w.ownsRow base e size v n xs)
 (d:Addr) (m c:Nat) (b:List Value) (hx:a.eval x=.slice (some d) m c) (q:b.length=m*size) (hc:∀ j u,b[j]?=some u->w.cell? (d.add j)=some u) (I:∀ u∈b,u.oneCell'=true)
 (L:n+m<=maxLen) (J:(n+m)*bytes<=140737488355328) (y:base<=w.heap.size)
 (A:∀ v' w',w'.ownsRow base e size v' (n+m) (xs++b)->w.grownBy w' v.ownBlock->K (a.put o.dst v') w'):
 if Region.wanted o (yielded ops a.tmps)=true then Oper.wp P o a w K Q else E:=by
 have hw:Region.wanted o (yielded ops a.tmps)=true:=by simp [Region.wanted,r]
 rw [X7 hw];obtain ⟨v',w',k,g,f,_⟩:=run_append_own (P:=P) w base t o.type e i z size bytes h1 h2 H F D C B v n xs l d m c b q hc I L J y;unfold Oper.wp;simp [execOp,p,resolve,invoke,builtin,h,hx,k,Result.andThen];exact A v' w' g f
theorem AP {base:Nat} (h:w.ownsRow base 5 1 v n (Lib.byteCells l)) (hn:0<n):(convert 183 9 v).run prog w=.ok (.string ⟨l.toArray⟩) w:=by
 have c:=h;obtain ⟨h1,h2⟩:=h;rcases h2 with ⟨_,h0⟩ | ⟨g,d,cur,rfl,hg,hh,_⟩
 · omega
 · have hl:l.length=n:=by rw [Yo] at h1;omega
   have:=run_convert_bytes_arg (P:=prog) w 183 5 underlying183 underlying5 g 0 n d (l.map fun b=>(b.toNat:Int)) (by simpa using hl) (fun i hi=>by
    rw [L8,c.cellAt i O0];have a:i<l.length:=O0;simp [Lib.byteCells,a]) 9 underlying9
   rw [this];have e:l.map ((fun n:Int=>UInt8.ofNat n.toNat)∘fun b=>(b.toNat:Int))=l:=(Ku (fun b _=>X4)).trans (JE l);simp only [strOfNums,ru,e]
theorem LQ {c:UInt8} (h:¬ H_ c=true):(c.toNat:Int)<32\/126<(c.toNat:Int)\/((32:Int)<=(c.toNat:Int)/\(c.toNat:Int)<=126/\((c.toNat:Int) !=34)=false)\/((32:Int)<=(c.toNat:Int)/\(c.toNat:Int)<=126/\((c.toNat:Int) !=34)=true/\((c.toNat:Int) !=92)=false):=by
 unfold H_ at h;simp only [V_,Ud,qI,p_] at h;simp only [bne_eq_false_iff_eq,Tq];omega
theorem LG (c:UInt8):IntKind.u8.wrap ((c.toNat:Int) / 16)=(c.toNat:Int) / 16:=by
 have:=c.toNat_lt;simp [IntKind.wrap,IntKind.signed,IntKind.bits];omega
theorem row3 (w:World) (x y z:Value) (t:TypeId):∀ j u,[x,y,z][j]?=some u->(w.alloc (.cells #[x,y,z] t)).drew.cell? ((⟨w.heap.size,0,none⟩:Addr).add j)=some u:=by
 intro j u h
 match j,h with
 | 0,h=>simp at h;subst h;simp [Addr.add]
 | 1,h=>simp at h;subst h;simp [Addr.add]
 | 2,h=>simp at h;subst h;simp [Addr.add]
def Ze (x:M3):Bool:=Y5 x.nm.data.toList&&Y5 x.tl.data.toList&&decide ((x.ar.size:Int)<=300)
theorem a1E (x:M3) (w:World) (c:x.le 1048700):
 Calls prog 238 #[.agg #[.string x.nm,.string x.tl,.string x.ar]] w fun e w'=>e=.returned (.bool (Ze x))/\Bw w w':=by
 have a:Hid (Ze x=(Y5 x.nm.data.toList&&Y5 x.tl.data.toList&&decide ((x.ar.size:Int)<=300))):=rfl;obtain ⟨h1,h2,h3⟩:=c;go_enter func238,ntmps238
 go_wp2_with fail
 refine (NJ _ _ h1).mono ?_;rintro e b ⟨rfl,rfl⟩;cases hn:Y5 x.nm.data.toList
 · rw [hn] at a;go_wp2
   all_goals go_ret
   all_goals exact ⟨J9 (by rw [a.out];simp),P6⟩
 · rw [hn] at a
   go_wp2_with fail
   refine (NJ _ _ h2).mono ?_;rintro e b ⟨rfl,rfl⟩;cases hm:Y5 x.tl.data.toList
   all_goals
    rw [hm] at a;go_wp2
    all_goals go_ret
    all_goals exact ⟨J9 (by rw [a.out];simp),P6⟩
theorem mW (x:M3) (w:World) (c:x.le 1048700):
 Calls prog 211 #[.agg #[.string x.nm,.string x.tl,.string x.ar]] w fun e w'=>e=.returned (.bool (Ze x))/\Bw w w':=by
 have a:Hid (Ze x=(Y5 x.nm.data.toList&&Y5 x.tl.data.toList&&decide ((x.ar.size:Int)<=300))):=rfl;obtain ⟨h1,h2,h3⟩:=c;go_enter func211,ntmps211
 go_wp2_with fail
 refine (c116 _ _ h1).mono ?_;rintro e b ⟨rfl,rfl⟩;cases hn:Y5 x.nm.data.toList
 · rw [hn] at a;go_wp2
   all_goals go_ret
   all_goals exact ⟨J9 (by rw [a.out];simp),P6⟩
 · rw [hn] at a
   go_wp2_with fail
   refine (c116 _ _ h2).mono ?_;rintro e b ⟨rfl,rfl⟩;cases hm:Y5 x.tl.data.toList
   all_goals
    rw [hm] at a;go_wp2
    all_goals go_ret
    all_goals exact ⟨J9 (by rw [a.out];simp),P6⟩
theorem VK {x:M3} {v:Bool} (hv:Ze x=v) (w:World) (a:x.le 1048700):
 Calls prog 211 #[.agg #[.string x.nm,.string x.tl,.string x.ar]] w fun e w'=>e=.returned (.bool v)/\Bw w w':=hv▸mW x w a
def Oc (x:M3):List UInt8:=x.nm.data.toList++[32]++x.tl.data.toList++[32]++P5 x.ar.data.toList
structure But (b:Nat) (w w':World):Prop where
 os:w'.os=w.os
 tape:w'.tape=w.tape
 output:w'.output=w.output
 size:w.heap.size<=w'.heap.size
 block:∀ k,k<w.heap.size->k≠b->w'.heap[k]?=w.heap[k]?
theorem But.refl (b:Nat) (w:World):But b w w:=⟨rfl,rfl,rfl,v_ _,fun _ _ _=>rfl⟩
theorem But.trans {u v:World} (h:But b u v) (k:But b v w):But b u w:=
 ⟨k.os.trans h.os,k.tape.trans h.tape,k.output.trans h.output,G7 h.size k.size,fun i c a=>(k.block i (O9 c h.size) a).trans (h.block i c a)⟩
theorem But.of_below (h:Bw w w'):But b w w':=⟨h.os,h.tape,h.output,h.size,fun k a _=>h.block k a⟩
theorem But.below {B:Nat} (h:But b w w') (hB:B<=b) (hz:B<=w.heap.size):Below B w w':=⟨h.os,h.tape,h.output,h.size,fun k hk=>h.block k O0 O0⟩
theorem But.setCell (h:But b w w') (j:Nat) (v:Value):But b w (w'.setCell ⟨b,j,none⟩ v):=by
 have k:=(Z4 b w').setCell (p:=(aA b j)) H8 v;refine ⟨k.os.trans h.os,k.tape.trans h.tape,k.output.trans h.output,G7 h.size k.size,fun i c a=>?_⟩;rw [<- h.block i c a];exact Ec _ _ _ _ a
theorem But.cell (h:But b w w') {p:Addr} (a:p.block<w.heap.size) (c:p.block≠b):w'.cell? p=w.cell? p:=by
 unfold World.cell?;rw [h.block p.block a c]
theorem Vb (a b:List UInt8):J3 a++J3 b=J3 (a++b):=by apply Df;simp [J3]
theorem qW (c:UInt8):(⟨#[c]⟩:BY)=J3 [c]:=rfl
theorem kQ (x:Int) (l:List UInt8):strOfNums [x]++J3 l=J3 (UInt8.ofNat x.toNat::l):=by
 apply Df;simp [J3,strOfNums]
def QA (w:World) (b n:Nat):Prop:=b<w.heap.size/\(∀ j,j<n*4->∃ v,w.cell? ⟨b,j,none⟩=some v)/\∀ j,w.frozen? ⟨b,j,none⟩=false
theorem QA.below (h:QA w b n) (a:Bw w w'):QA w' b n:=
 ⟨O9 h.1 a.size,fun j c=>by rw [a.cell (by exact h.1)];exact h.2.1 j c,fun j=>by rw [a.frozen (by exact h.1)];exact h.2.2 j⟩
theorem QA.set {j:Nat} (h:QA w b n) (hj:j<n*4):QA (w.setCell ⟨b,j,none⟩ v) b n:=by
 refine ⟨by simpa using h.1,fun i a=>?_,fun i=>by have:=h.2.2 i;simpa using this⟩;by_cases e:i=j
 · subst e;obtain ⟨x,hx⟩:=h.2.1 i a;exact ⟨v,jg _ _ _ hx⟩
 · rw [Na _ _ _ _ (Ed (Ne.symm e))];exact h.2.1 i a
