import Derived.Test.YtkdbheidpdjimaaGreatDooreR3
import Derived.Test.YtkdbheidpdjimaaGreatDooreY3
import Derived.Lib.AppendStr
set_option linter.unusedVariables false
set_option maxHeartbeats 8000000
set_option maxRecDepth 100000
namespace Go.Proofs.YtkdbheidpdjimaaGreatDoor
open Proofs.Tryz Go.RowKit
variable {w:World} {l:List UInt8}
theorem YJ (l:List UInt8) (w:World) (hs:l.length<=1048700) (hm:Tc w):
 Calls prog 167 #[.string (Y2 l),.string ⟨#[32]⟩] w fun e w'=>(∃ y,e=.returned (.tuple #[.string (Y2 (O1 l)),.string (Y2 (Y1 l)),.bool y]))/\Below w.heap.size w w':=by
 obtain ⟨_,m,hm⟩:=hm;refine (Tryz.strings_Cut (Y2 l) ⟨#[32]⟩ m w (by rw [J5];omega) hm).mono ?_;rintro e w' ⟨rfl,n,rfl⟩;refine ⟨⟨(Lib.cut l [32]).2.2,?_⟩,below_drewN n⟩;rw [<- YI,<- YD];rfl
theorem lJ {ss:LB} {ls:List (List UInt8)} (h:ss.map (·.data.toList)=ls):ss=ls.map Y2:=by
 rw [<- h,xu]
 conv=>lhs;rw [<- WC ss]
 refine Wu fun s _=>?_;exact qc rfl
theorem RZ (l:List UInt8) (w:World) (hs:l.length<=1048700) (hm:Tc w):
 Calls prog 239 #[.string (Y2 l),.string ⟨#[32]⟩,.int .i64 3] w fun e w'=>(∃ b,e=.returned (.slice (some ⟨w.heap.size,0,none⟩) (Yd l 2).length b)/\Yb w' w.heap.size (Yd l 2))/\Below w.heap.size w w':=by
 obtain ⟨_,m,hm⟩:=hm;refine (Tryz.strings_SplitN (Y2 l) ⟨#[32]⟩ 3 m w (by rw [J5];omega) hm O6 O0 O0).mono ?_;have hd:Lib.splitB ⟨#[32]⟩ 0 (min 3 ((Y2 l).size+1) - 1) (Y2 l)=(Yd l 2).map Y2:=by
  refine lJ ?_;rw [Lib.splitB_data ⟨#[32]⟩ 0 (min 3 ((Y2 l).size+1) - 1) (Y2 l),J5,<- kN l];rfl
 have hlen:(Yd l 2).length<=min 3 ((Y2 l).size+1):=by
  have:=Lib.splitB_length_le ⟨#[32]⟩ 0 (min 3 ((Y2 l).size+1) - 1) (Y2 l);rw [hd,Lc] at this;omega
 rintro e w' ⟨rfl,rfl⟩;rw [hd];refine ⟨⟨_,by rw [Lc],I4,fun i a=>?_⟩,o7⟩;have hc:(Lib.cellsOf ((Yd l 2).map Y2) (min 3 ((Y2 l).size+1)))[i]?=some (vS (Y2 ((Yd l 2).getD i []))):=by
  unfold Lib.cellsOf;rw [List.getElem?_toArray,I_ (by simpa using a)];simp [a]
 rw [<- hc];simp
theorem rz3 {u:World} (a:Below (w.heap.size+1) (w.alloc (.cells #[.string ⟨#[]⟩,.string ⟨#[]⟩,.string ⟨#[]⟩] 101)) u):
 (u.cell? ⟨w.heap.size,0,none⟩=some (.string ⟨#[]⟩)/\u.cell? ⟨w.heap.size,1,none⟩=some (.string ⟨#[]⟩)/\u.cell? ⟨w.heap.size,2,none⟩=some (.string ⟨#[]⟩))/\u.frozen? ⟨w.heap.size,0,none⟩=false/\u.frozen? ⟨w.heap.size,1,none⟩=false/\u.frozen? ⟨w.heap.size,2,none⟩=false:=by
 have c:∀ j,u.cell? (aW w j)=(w.alloc (.cells #[vE,vE,vE] 101)).cell? (aW w j):=fun j=>a.cell I4;have f:∀ j,u.frozen? (aW w j)=(w.alloc (.cells #[vE,vE,vE] 101)).frozen? (aW w j):=fun j=>a.frozen I4;rw [c,c,c,f,f,f];simp
theorem dP {p q:Addr} {x:Value} (a:q.block≠p.block) (h:w.cell? p=some x) (v:Value):(w.setCell q v).cell? p=some x:=by
 rw [La _ _ _ _ (fun e=>a (by rw [e]))];exact h
theorem kQ (l:List UInt8) (w:World) (a:l.length<=1048700):Calls prog 173 #[.string (Y2 l)] w fun e w'=>fM l e/\Below w.heap.size w w':=c173 (Y2 l) w (by rw [J5];exact a)
def KY (l:List UInt8) (e:Ending):Prop:=∃ (x:M3) (ok:Bool),e=.returned (.tuple #[x.v,.bool ok])/\zx l x ok
theorem c193 (l:List UInt8) (w:World) (hs:l.length<=16000) (hmx:Tc w):
 Calls prog 193 #[.string (Y2 l)] w fun e w'=>KY l e/\Below w.heap.size w w':=by
 have d:(∀ y,Ff y=true->l≠Bd y)->Hid (KY l (.returned (.tuple #[.agg #[vE,vE,vE],.bool false]))):=fun h=>⟨H_,false,rfl,SN h⟩;have E:Below w.heap.size w (w.alloc (.cells #[vE,vE,vE] 101)):=o7;go_enter func193,ntmps193
 go_wp2_with fail
 refine (RZ l _ O0 (G9 hmx E)).mono ?_;rintro e z ⟨⟨cap,rfl,hln⟩,hb1⟩;have K:Below (w.heap.size+1) (w.alloc (.cells #[vE,vE,vE] 101)) z:=lF hb1;have hB1:=E.trans (K.mono O0);have s:Hid (Yb z (w.heap.size+1) (Yd l 2)):=by have h:=hln;simp at h;exact h
 clear hb1 hln;obtain ⟨⟨c,b,a⟩,m,k,j⟩:=rz3 K;by_cases hm:(32:UInt8)∈l
 · by_cases D:(32:UInt8)∈Y1 l
   · have i:Yd l 2=[O1 l,O1 (Y1 l),Y1 (Y1 l)]:=by rw [Zk 1 hm,Zk 0 D,VI]
     rw [i] at s ⊢;have L:=s.out.1;have Z:z.cell? (aA (w.heap.size+1) 0)=some (vS (Y2 (O1 l))):=s.out.2 0 I4;have Y:z.cell? (aA (w.heap.size+1) 1)=some (vS (Y2 (O1 (Y1 l)))):=s.out.2 1 I4;have p2:z.cell? (aA (w.heap.size+1) 2)=some (vS (Y2 (Y1 (Y1 l)))):=s.out.2 2 I4;have hr1:=X7 l;have hr2:=X7 (Y1 l);have hbp:=fun (t:List UInt8) (ok:Bool) q=>fG (l:=l) (t:=t) (ok:=ok) hm D q;clear i;generalize hA:O1 l=A at*;generalize hR:Y1 l=R at*;generalize hBB:O1 R=B at*;generalize hQ:Y1 R=Q at*;simp only [A_,Xe]
     go_wp2_with fail
     refine (kQ _ _ O0).mono ?_;rintro e x ⟨⟨t,ok,rfl,q⟩,H⟩;have o:=K.trans (H.mono O0);have I:=E.trans (o.mono O0);have hlt2:=m_ L H.size;have q0:=(H.cell (by exact L)).trans Z;have q1:=(H.cell (by exact L)).trans Y;have q0':=past (by exact hlt2) q0;have q1':=past (by exact hlt2) q1;clear c b a m k j Z Y p2 s;obtain ⟨⟨c,b,a⟩,m,k,j⟩:=rz3 o;have f:w.heap.size<x.heap.size:=O0;have U:=past (by exact f) c;have S:=past (by exact f) b;have P:=past (by exact f) a;have X:=jG (by exact f) m;have W:=jG (by exact f) k;have V:=jG (by exact f) j;have u:=hbp t ok q;clear hbp;cases ok
     · have g:=d (u.2 I4);clear d u q
       go_wp2_with fail
       go_region
       all_goals
        go_wp2_with fail
        have F:=Yp x w.heap.size 0 vE vE vE _ _ _ c b a;simp only [E8] at F;have G0:=past (p:=(aW w 0)) (by simpa using f) F.1;have G1:=past (p:=(aW w 1)) (by simpa using f) F.2.1;have G2:=past (p:=(aW w 2)) (by simpa using f) F.2.2;refine P7 (v:=.tuple #[.agg #[vE,vE,vE],.bool false]) (by simp [results,results193,go_sem,G0,G1,G2]) rfl ⟨g.out,?_⟩
        first
         | exact ((((I.setCell I4 _).setCell I4 _).setCell I4 _).alloc (by simpa using I.size) _).drew
         | exact (((I.setCell I4 _).setCell I4 _).setCell I4 _).alloc (by simpa using I.size) _
     · have hQl:=q.1 rfl;have htl:t.length<=16000:=by
        have:=Yo t;rw [<- hQl] at this;omega
       have hle:(⟨Y2 A,Y2 B,Y2 t⟩:M3).le 1048700:=⟨by rw [J5];omega,by rw [J5];omega,by rw [J5];omega⟩;clear q;cases hk:Ff ⟨Y2 A,Y2 B,Y2 t⟩
       · have g:=d (u.2 (by rw [hk];simp));have O:=fun w'=>CJ hk w' hle;clear d u hk
         go_wp2_with fail
         go_region
         all_goals
          go_wp2_with fail
          refine (O _).mono ?_;rintro e n ⟨rfl,r⟩;have C:Below (w.heap.size+1) (w.alloc (.cells #[vE,vE,vE] 101)) n:=by
           refine Below.trans ?_ (r.mono U7)
           first | exact (o.alloc O0 _).drew | exact o.alloc O0 _
          have N:=E.trans (C.mono O0);clear c b a m k j U S P X W V;obtain ⟨⟨c,b,a⟩,m,k,j⟩:=rz3 C;go_wp2;refine P7 (v:=.tuple #[.agg #[vE,vE,vE],.bool false]) (by simp [results,results193,go_sem,c,b,a]) rfl ⟨g.out,((N.setCell I4 _).setCell I4 _).setCell I4 _⟩
       · have g:Hid (KY l (.returned (.tuple #[.agg #[vS (Y2 A),vS (Y2 B),vS (Y2 t)],.bool true]))):=⟨⟨Y2 A,Y2 B,Y2 t⟩,true,rfl,u.1 rfl hk⟩;have O:=fun w'=>CJ hk w' hle;clear d u hk
         go_wp2_with fail
         go_region
         all_goals
          go_wp2_with fail
          refine (O _).mono ?_;rintro e n ⟨rfl,r⟩;have C:Below (w.heap.size+1) (w.alloc (.cells #[vE,vE,vE] 101)) n:=by
           refine Below.trans ?_ (r.mono U7)
           first | exact (o.alloc O0 _).drew | exact o.alloc O0 _
          have N:=E.trans (C.mono O0);have m0:n.cell? (aW x 0)=some (vS (Y2 A)):=by rw [r.cell I4];simp [go_sem]
          have m1:n.cell? (aW x 1)=some (vS (Y2 B)):=by rw [r.cell I4];simp [go_sem]
          have m2:n.cell? (aW x 2)=some (vS (Y2 t)):=by rw [r.cell I4];simp [go_sem]
          clear c b a m k j U S P X W V;obtain ⟨⟨c,b,a⟩,m,k,j⟩:=rz3 C;go_wp2;have F:=Yp n w.heap.size 0 (vS (Y2 A)) (vS (Y2 B)) (vS (Y2 t)) _ _ _ c b a;simp only [E8] at F;refine P7 (v:=.tuple #[.agg #[vS (Y2 A),vS (Y2 B),vS (Y2 t)],.bool true]) (by simp [results,results193,go_sem,F.1,F.2.1,F.2.2]) rfl ⟨g.out,((N.setCell I4 _).setCell I4 _).setCell I4 _⟩
   · have i:Yd l 2=[O1 l,Y1 l]:=by rw [Zk 1 hm,Rh _ D]
     have g:=d (fun y J e=>D (Yt J e).1.2);rw [i];clear d i hm D;simp only [A_,Xe];go_wp2;refine P7 (v:=.tuple #[.agg #[vE,vE,vE],.bool false]) (by simp [results,results193,go_sem,c,b,a]) rfl ⟨g.out,((hB1.setCell I4 _).setCell I4 _).setCell I4 _⟩
 · have i:Yd l 2=[l]:=Rh _ hm;have g:=d (fun y J e=>hm (Yt J e).1.1);rw [i];clear d i hm;simp only [A_,Xe];go_wp2;refine P7 (v:=.tuple #[.agg #[vE,vE,vE],.bool false]) (by simp [results,results193,go_sem,c,b,a]) rfl ⟨g.out,((hB1.setCell I4 _).setCell I4 _).setCell I4 _⟩
theorem a2r (n:Int) (w:World):
 Calls prog 333 #[.int .i64 n] w fun e w'=>Tm (1<=n/\n<=200) e/\Bw w w':=by
 go_enter func333,ntmps333
 go_wp2_with fail
 refine (a1N n _).mono ?_;rintro e w1 ⟨rfl,rfl⟩;go_wp2;go_ret;exact ⟨⟨_,rfl,I4⟩,Z4 _ _⟩
theorem TU (a b:BY) (w:World) (ha:a.size<=1048700) (hb:b.size<=1048700):
 Calls prog 133 #[.agg #[.string a,.string b]] w fun e w'=>Tm (o6 a.data.toList=true/\b.size<=300) e/\Bw w w':=by
 have c:∀ o,Bw w (w.alloc o):=fun o=>o7;go_enter func133,ntmps133
 go_wp2_with fail
 refine (QN a _ ha).mono ?_;rintro e w1 ⟨rfl,rfl⟩;cases hn:o6 a.data.toList
 · have g:Hid (Tm (o6 a.data.toList=true/\b.size<=300) (.returned (.bool false))):=L_ (fun h=>by rw [hn] at h;cases h.1);go_wp2;go_ret;exact ⟨g.out,c _⟩
 · by_cases d:b.size<=300
   · have f:decide ((b.size:Int)<=300)=true:=U7;go_wp2;go_ret;exact ⟨⟨true,rfl,⟨fun _=>⟨hn,d⟩,fun _=>rfl⟩⟩,c _⟩
   · have f:decide ((b.size:Int)<=300)=false:=U7;go_wp2;go_ret;exact ⟨⟨false,rfl,⟨(fun h=>by cases h),fun h=>absurd h.2 d⟩⟩,c _⟩
theorem sV (a b:BY) (w:World) (ha:a.size<=1048700) (hb:b.size<=1048700):
 Calls prog 151 #[.agg #[.string a,.string b]] w fun e w'=>Tm (o6 a.data.toList=true/\b.size<=300) e/\Bw w w':=by
 have c:∀ o,Bw w (w.alloc o):=fun o=>o7;go_enter func151,ntmps151
 go_wp2_with fail
 refine (c23 a _ ha).mono ?_;rintro e w1 ⟨rfl,rfl⟩;cases hn:o6 a.data.toList
 · have g:Hid (Tm (o6 a.data.toList=true/\b.size<=300) (.returned (.bool false))):=L_ (fun h=>by rw [hn] at h;cases h.1);go_wp2;go_ret;exact ⟨g.out,c _⟩
 · by_cases d:b.size<=300
   · have f:decide ((b.size:Int)<=300)=true:=U7;go_wp2;go_ret;exact ⟨⟨true,rfl,⟨fun _=>⟨hn,d⟩,fun _=>rfl⟩⟩,c _⟩
   · have f:decide ((b.size:Int)<=300)=false:=U7;go_wp2;go_ret;exact ⟨⟨false,rfl,⟨(fun h=>by cases h),fun h=>absurd h.2 d⟩⟩,c _⟩
theorem a0G (a b:BY) (w:World) (ha:a.size<=1048700) (d:b.size<=1048700):
 Calls prog 336 #[.agg #[.string a,.string b]] w fun e w'=>Tm (o6 a.data.toList=true/\b.size<=300) e/\Bw w w':=by
 have f:∀ o,Bw w (w.alloc o):=fun o=>o7;go_enter func336,ntmps336
 go_wp2_with fail
 refine (TU a b _ ha d).mono ?_;rintro e w1 ⟨⟨r,rfl,hr⟩,c⟩;go_wp2;go_ret;exact ⟨⟨r,rfl,hr⟩,(f _).trans (c.mono I4)⟩
theorem a1r (a:BY) (w:World) (ha:a.size<=1048700):
 Calls prog 338 #[.string a] w fun e w'=>Tm (o6 a.data.toList=true) e/\Bw w w':=by
 go_enter func338,ntmps338
 go_wp2_with fail
 refine (QN a _ ha).mono ?_;rintro e w1 ⟨rfl,rfl⟩;go_wp2;go_ret;exact ⟨⟨_,rfl,Iff.rfl⟩,Z4 _ _⟩
theorem a1b (w:World):
 Calls prog 342 #[.agg #[]] w fun e w'=>Tm True e/\Bw w w':=by
 have a:∀ o,Bw w (w.alloc o):=fun o=>o7;go_enter func342,ntmps342;go_wp2;go_ret;exact ⟨Yj trivial,by first | exact a _ | exact Z4 _ _⟩
theorem a2g (m:M3) (ls:List L4) (c:Int) (t:BY) (a:OA) (d:Nat) (w:World) (hm:m.le 1048576) (hl:ls.length<=1048576) (u:∀ i,(ls.getD i O_).le 1048576) (ht:t.size<=1048576) (y:I9 w a ls):
 Calls prog 340 #[.agg #[.string m.nm,.string m.tl,.string m.ar,.slice a ls.length d,.int .i64 c,.string t]] w fun e w'=>Tm (lg m ls c t) e/\Bw w w':=by
 have A:∀ o,Bw w (w.alloc o):=fun o=>o7;go_enter func340,ntmps340
 go_wp2_with fail
 refine (ZT m _ ⟨Q7 hm.1 O0,Q7 hm.2.1 O0,Q7 hm.2.2 O0⟩).mono ?_;rintro e k ⟨rfl,l⟩;have f:Below (w.heap.size+1) (w.alloc (.cells #[vS m.nm,vS m.tl,vS m.ar,vL a ls.length d,vI c,vS t] 204)) k:=lF l;have q:=(I5 w [vS m.nm,vS m.tl,vS m.ar,vL a ls.length d,vI c,vS t] 204).below f O0;have j:=(A _).trans (f.mono O0);have s:w.heap.size<k.heap.size:=by have h:=f.size;simp at h;omega
 have k3:=q 3 _ rfl;clear l;cases hn:Ff m
 · have b:Hid (Tm (lg m ls c t) (.returned (.bool false))):=L_ (fun h=>by have h1:=h.1;rw [hn] at h1;cases h1);go_wp2;go_ret;exact ⟨b.out,j⟩
 · go_wp2_with fail
   refine (c131 a d ls _ hl u (N7 y j)).mono ?_;rintro e w2 ⟨⟨r,rfl,hr⟩,g⟩;have n:=G7 j g;have p:=q.below g s;have k4:=p 4 _ rfl;have k5:=p 5 _ rfl;clear g;cases r
   · have b:Hid (Tm (lg m ls c t) (.returned (.bool false))):=L_ (fun h=>absurd (hr.2 h.2.1) O6);clear hr;go_wp2;go_ret;exact ⟨b.out,n⟩
   · have v:=hr.1 rfl;clear hr
     go_wp2_with fail
     refine (JM c t _ O0).mono ?_;rintro e w3 ⟨rfl,x⟩;have z:=G7 n x;have b:Hid (Tm (lg m ls c t) (.returned (.bool (vr c t.data.toList)))):=⟨_,rfl,⟨fun h=>⟨hn,v,h⟩,fun h=>h.2.2⟩⟩;go_wp2;go_ret;exact ⟨b.out,z⟩
theorem uH (n:Int) (h0:0<=n) (h1:n<=1000000):(Y2 (dec n)).size<=100000001:=by rw [J5];exact TJ n h0 O0
theorem Ue (s:BY):(Y2 (X5 s.data.toList)).size<=3*s.size+2:=by
 rw [J5];have:=yt s.data.toList;have e:s.data.toList.length=s.size:=I4;unfold X5;simp only [A_,N9,Xe];omega
def Ib (c:Int) (t:BY):List UInt8:=dec c++[32]++X5 t.data.toList
theorem QU (c:Int) (t:BY):Y2 (dec c)++⟨#[32]⟩++Y2 (X5 t.data.toList)=Y2 (Ib c t):=by
 show Y2 (dec c)++Y2 [32]++Y2 (X5 t.data.toList)=_;rw [Zc,Zc];rfl
theorem NW (c:Int) (t:BY) (w:World) (h:0<=c) (hc1:c<=1000) (ht:t.size<=1048600):
 Calls prog 155 #[.agg #[.int .i64 c,.string t]] w fun e w'=>e=.returned (.string (Y2 (Ib c t)))/\Bw w w':=by
 have z1:=uH c h O0;have z2:=Ue t;have r:=U0 (QU c t);have k1:¬ 9223372036854775807<(Y2 (dec c)).size+1:=O0;have k1':¬ 9223372036854775807<=(Y2 (dec c)).size:=O0;have k2:¬ 9223372036854775807<(Y2 (dec c)).size+1+(Y2 (X5 t.data.toList)).size:=O0;go_enter func155,ntmps155
 go_wp2_with fail
 have k:Bw w (w.alloc (.cells #[vI c,vS t] 103)):=o7;have d:w.heap.size<(w.alloc (.cells #[vI c,vS t] 103)).heap.size:=I4;have q:(w.alloc (.cells #[vI c,vS t] 103)).cell? (aW w 0)=some (vI c):=by simp [go_sem]
 have o:(w.alloc (.cells #[vI c,vS t] 103)).cell? (aW w 1)=some (vS t):=by simp [go_sem]
 generalize (w.alloc (.cells #[vI c,vS t] 103))=V at*;refine wp_region_held_drew (S:=(fun u=>u.cell? (aW w 0)=some (vI c)/\u.cell? (aW w 1)=some (vS t))) J3 ?_ fun hHeld=>?_
 · ((try dsimp only);go_keep)
 refine Y0 0 ?_;refine Y0 1 ?_;refine Y0 4 ?_;refine Y0 5 ?_;refine rq 2 fun K a=>?_;go_simp;refine (c148 (c.toNat+1) c _ h O0 (Bv _)).mono ?_;rintro e l ⟨rfl,j⟩;have b:Hid (Bw V l):=((Z4 _ _).drew).trans j;have b0:=(b.out.cell (p:=(aW w 0)) (by exact d)).trans q;have n:=(b.out.cell (p:=(aW w 1)) (by exact d)).trans o;clear j
 go_wp2_with fail
 clear hHeld;refine wF a fun hHeld=>?_;clear a K;refine Y0 3 ?_;refine rq 6 fun K a=>?_;go_simp;refine (XG t _ O0).mono ?_;rintro e w2 ⟨rfl,i⟩;have f:=U0 i;have g:=m_ d b.out.size;have d0:=(f.out.cell (p:=(aW w 0)) (by exact g)).trans b0;have d1:=(f.out.cell (p:=(aW w 1)) (by exact g)).trans n;clear i
 go_wp2_with fail
 clear hHeld;refine wF a fun hHeld=>?_;clear a K;refine Y0 7 ?_;refine Y0 8 ?_;refine wdn ?_;have m:=(G7 k b.out).trans (f.out.mono (G7 k b.out).size);clear hHeld;go_wp2;go_ret;exact ⟨by rw [<- r.out];rfl,m⟩
theorem xC {P:Program} {ops:Array Oper} {o:Oper} {a:Act} {K:Act->World->Prop} {Q:Exit->Act->World->Prop} {E:Prop}
 (m:o.guard=none) (s x:Operand) (t u:TypeId) (l:o.op=Op.call { callee:=Callee.builtin Builtin.append,args:=#[s,x],argTypes:=#[t,u] })
 (base:Nat) (e:TypeId) (i:TypeInfo) (h1:P.underlying t=some (.slice e)) (g:P.underlying u=some .string) (h2:P.info? e=some i) (z:i.zero=some (.int .u8 0)) (y:i.size=1) (r:i.bytes=1)
 (v:Value) (n:Nat) (xs:List Value) (h:a.eval s=v) (k:w.ownsRow base e 1 v n xs) (b:BY) (hx:a.eval x=.string b)
 (B:n+b.size<=maxLen) (A:n+b.size<=140737488355328) (p:base<=w.heap.size)
 (q:∀ v' w',w'.ownsRow base e 1 v' (n+b.size) (xs++Lib.strCells b)->w.grownBy w' v.ownBlock->(v'=.slice none 0 0↔v=.slice none 0 0/\b.size=0)->K (a.put o.dst v') w'):
 if Region.wanted o (yielded ops a.tmps)=true then Oper.wp P o a w K Q else E:=by
 have hw:Region.wanted o (yielded ops a.tmps)=true:=by simp [Region.wanted,m]
 rw [G8 hw];obtain ⟨v',w',j,f,d,c⟩:=Lib.run_append_own_string (P:=P) w base t u o.type e i h1 g h2 z y r v n xs k b B A p;unfold Oper.wp;simp [execOp,l,resolve,invoke,builtin,h,hx,j,Result.andThen];exact q v' w' f d c
theorem EL {base:Nat} {v:Value} {n:Nat} (h:w.ownsRow base 5 1 v n (Lib.byteCells l)) (a:v≠.slice none 0 0):(convert 243 9 v).run prog w=.ok (.string ⟨l.toArray⟩) w:=by
 have d:=h;obtain ⟨h1,h2⟩:=h;rcases h2 with ⟨h0,_⟩ | ⟨g,f,cur,rfl,hg,hh,_⟩
 · exact absurd h0 a
 · have hl:l.length=n:=by rw [Ap] at h1;omega
   have:=run_convert_bytes_arg (P:=prog) w 243 5 underlying243 underlying5 g 0 n f (l.map fun b=>(b.toNat:Int)) (by simpa using hl) (fun i hi=>by
    rw [E8,d.cellAt i O0];have c:i<l.length:=O0;simp [Lib.byteCells,c]) 9 underlying9
   rw [this];have e:l.map ((fun n:Int=>UInt8.ofNat n.toNat)∘fun b=>(b.toNat:Int))=l:=(Wu (fun b _=>I4)).trans (WC l);simp only [strOfNums,xu,e]
theorem Qg {c:Int} (h:vr c l=true):0<=c/\c<=7:=by
 unfold vr at h;by_cases h1:c=0\/c=1
 · omega
 · rw [A8 h1] at h;by_cases h2:c=2
   · omega
   · rw [A8 h2] at h;by_cases b:c=3
     · omega
     · rw [A8 b] at h;by_cases a:c=4\/c=5\/c=7
       · omega
       · rw [A8 a] at h;cases h
theorem Ji {x:L4} (h:Vh x):0<=x.cd/\x.cd<=7:=by
 rcases h.2 with ⟨_,⟨h,_⟩ | ⟨h,_⟩⟩ | ⟨_,h⟩
 · omega
 · omega
 · exact Qg h
def vw (b:Bool):BY:=if b=true then ⟨#[104,97,115,32]⟩ else ⟨#[97,115,107,32]⟩
def uo (x:L4):List UInt8:=(vw x.has).data.toList++x.nm.data.toList++[32]++Ib x.cd x.tx++[10]
theorem Ky (x:L4):vw x.has++x.nm++⟨#[32]⟩++Y2 (Ib x.cd x.tx)++⟨#[10]⟩=Y2 (uo x):=by
 show Y2 (vw x.has).data.toList++Y2 x.nm.data.toList++Y2 [32]++Y2 (Ib x.cd x.tx)++Y2 [10]=_;rw [Zc,Zc,Zc,Zc];rfl
theorem wR (c:Int) (t:BY) (h0:0<=c) (h1:c<=1000):(Y2 (Ib c t)).size<=100000004+3*t.size:=by
 have a:=uH c h0 O0;have b:=Ue t;rw [J5] at a b ⊢;unfold Ib;simp only [N9,A_,Xe];omega
theorem XM (b:Bool):(vw b).size=4:=by cases b <;> rfl
def G_ (ls:List L4):List UInt8:=ls.flatMap uo
theorem Nz (ls:List L4) (k:Nat) (h:k<ls.length):G_ (ls.take (k+1))=G_ (ls.take k)++uo (ls.getD k O_):=by
 unfold G_;have e:ls.take (k+1)=ls.take k++[ls.getD k O_]:=by
  rw [pq];simp [List.getD,y9 h]
 rw [e,Dq];simp
theorem c154 (a:OA) (cap:Nat) (ls:List L4) (w:World) (D:jg ls) (R:∀ i,(ls.getD i O_).le 1048576) (W:I9 w a ls):
 Calls prog 154 #[.slice a ls.length cap] w fun e w'=>e=.returned (.string (Y2 (G_ ls)))/\Bw w w':=by
 obtain ⟨N,U,Q,P,O⟩:=info_parts info5;obtain ⟨b,off,hc⟩:=Og W;have HC:=U0 hc;have HS:=U0 R;have HOK:=U0 D;have hl:=D.1;clear hc W R D;go_enter func154,ntmps154
 go_wp2_with fail
 go_loopw [3,4] (fun v B wr=>∃ k:Nat,k<=ls.length/\B=.int .i64 k/\Hid (wr.ownsRow w.heap.size 5 1 v (G_ (ls.take k)).length (Lib.byteCells (G_ (ls.take k))))/\Hid (v≠.slice none 0 0)/\(G_ (ls.take k)).length<=k*110000000/\Below w.heap.size w wr) (fun _ B _=>ls.length - (intOf B).toNat)
 case atStart=>exact ⟨0,Nat.zero_le _,rfl,World.ownsRow_lit _ #[] 0 x9 (by unfold maxLen;omega) rfl,(fun e=>by cases e),by simp [G_],o7⟩
 case round=>
  obtain ⟨k,hk,rfl,r,F,hlen,f⟩:=hrel;by_cases y:k<ls.length
  · obtain ⟨ha,d,V⟩:=Nc HC.out y;subst ha;obtain ⟨q,n1,n2,n3⟩:=V k y;have g0:=(f.cell (p:=⟨b,off+k*4,none⟩) d).trans q;have g1:=(f.cell (p:=⟨b,off+k*4+1,none⟩) d).trans n1;have g2:=(f.cell (p:=⟨b,off+k*4+2,none⟩) d).trans n2;have g3:=(f.cell (p:=⟨b,off+k*4+3,none⟩) d).trans n3;have m:=m_ d f.size;have t:=HS.out k;have J:=Ji (HOK.out.2 k y);have z:=U0 (Nz ls k y);generalize ls.getD k O_=x at*;generalize G_ (ls.take k)=l at*;have hki:(k:Int)<(ls.length:Int):=O0;have zr:=wR x.cd x.tx J.1 O0;have s1:=t.1;have s2:=t.2;have X:Hid ((uo x).length<=110000000):=by
     have:=P5 ByteArray.size (Ky x);rw [J5] at this;simp only [bJ] at this;have w4:=XM x.has;have e1:(⟨#[32]⟩:BY).size=1:=rfl;have e2:(⟨#[10]⟩:BY).size=1:=rfl;show (uo x).length<=110000000;omega
    have k1:¬ 9223372036854775807<4+x.nm.size:=O0;have k2:¬ 9223372036854775807<4+x.nm.size+1:=O0;have k2':¬ 9223372036854775807<=4+x.nm.size:=O0;have k3:¬ 9223372036854775807<4+x.nm.size+1+(Y2 (Ib x.cd x.tx)).size:=O0;have k4:¬ 9223372036854775807<4+x.nm.size+1+(Y2 (Ib x.cd x.tx)).size+1:=O0;have k4':¬ 9223372036854775807<=4+x.nm.size+1+(Y2 (Ib x.cd x.tx)).size:=O0;have e32:(⟨#[32]⟩:BY).size=1:=rfl;have e10:(⟨#[10]⟩:BY).size=1:=rfl;have a6W:k<=14:=O0;clear V;cases hh:x.has
    · rw [hh] at g0 q;have L:Hid (vw x.has=⟨#[97,115,107,32]⟩):=by rw [hh];rfl
      have o:Hid (⟨#[97,115,107,32]⟩++x.nm++⟨#[32]⟩++Y2 (Ib x.cd x.tx)++⟨#[10]⟩=Y2 (uo x)):=by rw [<- L.out];exact Ky x
      have e4:(⟨#[97,115,107,32]⟩:BY).size=4:=rfl
      go_wp2_with fail
      refine wp_region_held_drew (S:=(fun u=>u.cell? ⟨b,off+k*4,none⟩=some (.bool false)/\u.cell? ⟨b,off+k*4+1,none⟩=some (vS x.nm)/\u.cell? ⟨b,off+k*4+2,none⟩=some (vI x.cd)/\u.cell? ⟨b,off+k*4+3,none⟩=some (vS x.tx))) J3 ?_ fun hHeld=>?_
      · ((try dsimp only);go_keep)
      refine Y0 0 ?_;refine Y0 1 ?_;refine Y0 2 ?_;refine Y0 3 ?_;refine Y0 4 ?_;refine Y0 5 ?_;refine Y0 6 ?_;refine Y0 7 ?_;refine Y0 8 ?_;refine Y0 9 ?_;refine Y0 10 ?_;refine Y0 11 ?_;refine Y0 12 ?_;refine Y0 13 ?_;refine rq 14 fun K g=>?_;go_simp;refine (NW x.cd x.tx _ J.1 O0 (by have:=t.2;omega)).mono ?_;rintro e A ⟨rfl,s⟩;have c:Hid (Bw wr A):=((Z4 _ _).drew).trans s;have b0:=(c.out.cell (p:=⟨b,off+k*4,none⟩) (by exact m)).trans g0;have b1:=(c.out.cell (p:=⟨b,off+k*4+1,none⟩) (by exact m)).trans g1;have b2:=(c.out.cell (p:=⟨b,off+k*4+2,none⟩) (by exact m)).trans g2;have b3:=(c.out.cell (p:=⟨b,off+k*4+3,none⟩) (by exact m)).trans g3;clear s
      go_wp2_with fail
      clear hHeld;refine wF g fun hHeld=>?_;clear g K;refine Y0 15 ?_;refine Y0 16 ?_;refine rq 17 fun K g=>?_;refine xC rfl (.tmp 18) (.tmp 34) 243 9 rfl w.heap.size 5 N underlying243 underlying9 U Q P O _ _ _ rfl (ownsRow_below r.out c.out) _ rfl (by simp only [ByteArray.size_append];unfold maxLen;omega) (by simp only [ByteArray.size_append];omega) (by have h1:=c.out.size;have h2:=f.size;omega) ?_;intro v' Y C I E;have h:=(G7 f c.out).grown I (by have h1:=c.out.size;have h2:=f.size;omega) (fun j H=>(r.out.lt j H).1);have m0:=(h.cell (p:=⟨b,off+k*4,none⟩) d).trans q;have m1:=(h.cell (p:=⟨b,off+k*4+1,none⟩) d).trans n1;have m2:=(h.cell (p:=⟨b,off+k*4+2,none⟩) d).trans n2;have Z:=(h.cell (p:=⟨b,off+k*4+3,none⟩) d).trans n3;clear hHeld;refine wF g fun hHeld=>?_;clear g K;refine Y0 18 ?_;refine wdn ?_;have HF:Hid (ByteArray.size _=_/\_):=⟨P5 ByteArray.size o.out,o.out⟩;clear hHeld;go_wp2;go_roundw
      case rel=>
       refine ⟨k+1,O0,by go_num,?_,fun e=>F.out (E.1 e).1,by rw [z.out,N9];have:=X.out;omega,h⟩;rw [z.out,T_,N9];have n:=C;rw [o.out] at n;rw [J5] at n;exact n
      case measure=>simp [intOf];omega
    · rw [hh] at g0 q;have L:Hid (vw x.has=⟨#[104,97,115,32]⟩):=by rw [hh];rfl
      have o:Hid (⟨#[104,97,115,32]⟩++x.nm++⟨#[32]⟩++Y2 (Ib x.cd x.tx)++⟨#[10]⟩=Y2 (uo x)):=by rw [<- L.out];exact Ky x
      have e4:(⟨#[104,97,115,32]⟩:BY).size=4:=rfl
      go_wp2_with fail
      refine wp_region_held_drew (S:=(fun u=>u.cell? ⟨b,off+k*4,none⟩=some (.bool true)/\u.cell? ⟨b,off+k*4+1,none⟩=some (vS x.nm)/\u.cell? ⟨b,off+k*4+2,none⟩=some (vI x.cd)/\u.cell? ⟨b,off+k*4+3,none⟩=some (vS x.tx))) J3 ?_ fun hHeld=>?_
      · ((try dsimp only);go_keep)
      refine Y0 0 ?_;refine Y0 1 ?_;refine Y0 2 ?_;refine Y0 3 ?_;refine Y0 4 ?_;refine Y0 5 ?_;refine Y0 6 ?_;refine Y0 7 ?_;refine Y0 8 ?_;refine Y0 9 ?_;refine Y0 10 ?_;refine Y0 11 ?_;refine Y0 12 ?_;refine Y0 13 ?_;refine rq 14 fun K g=>?_;go_simp;refine (NW x.cd x.tx _ J.1 O0 (by have:=t.2;omega)).mono ?_;rintro e A ⟨rfl,s⟩;have c:Hid (Bw wr A):=((Z4 _ _).drew).trans s;have b0:=(c.out.cell (p:=⟨b,off+k*4,none⟩) (by exact m)).trans g0;have b1:=(c.out.cell (p:=⟨b,off+k*4+1,none⟩) (by exact m)).trans g1;have b2:=(c.out.cell (p:=⟨b,off+k*4+2,none⟩) (by exact m)).trans g2;have b3:=(c.out.cell (p:=⟨b,off+k*4+3,none⟩) (by exact m)).trans g3;clear s
      go_wp2_with fail
      clear hHeld;refine wF g fun hHeld=>?_;clear g K;refine Y0 15 ?_;refine Y0 16 ?_;refine rq 17 fun K g=>?_;refine xC rfl (.tmp 18) (.tmp 34) 243 9 rfl w.heap.size 5 N underlying243 underlying9 U Q P O _ _ _ rfl (ownsRow_below r.out c.out) _ rfl (by simp only [ByteArray.size_append];unfold maxLen;omega) (by simp only [ByteArray.size_append];omega) (by have h1:=c.out.size;have h2:=f.size;omega) ?_;intro v' Y C I E;have h:=(G7 f c.out).grown I (by have h1:=c.out.size;have h2:=f.size;omega) (fun j H=>(r.out.lt j H).1);have m0:=(h.cell (p:=⟨b,off+k*4,none⟩) d).trans q;have m1:=(h.cell (p:=⟨b,off+k*4+1,none⟩) d).trans n1;have m2:=(h.cell (p:=⟨b,off+k*4+2,none⟩) d).trans n2;have Z:=(h.cell (p:=⟨b,off+k*4+3,none⟩) d).trans n3;clear hHeld;refine wF g fun hHeld=>?_;clear g K;refine Y0 18 ?_;refine wdn ?_;have HF:Hid (ByteArray.size _=_/\_):=⟨P5 ByteArray.size o.out,o.out⟩;clear hHeld;go_wp2;go_roundw
      case rel=>
       refine ⟨k+1,O0,by go_num,?_,fun e=>F.out (E.1 e).1,by rw [z.out,N9];have:=X.out;omega,h⟩;rw [z.out,T_,N9];have n:=C;rw [o.out] at n;rw [J5] at n;exact n
      case measure=>simp [intOf];omega
  · have HT:Hid (G_ (ls.take k)=G_ ls):=by rw [u_ O0];rfl
    have hcv:=EL r.out F.out;go_wp2;go_ret;exact ⟨by rw [<- HT.out];rfl,f⟩
