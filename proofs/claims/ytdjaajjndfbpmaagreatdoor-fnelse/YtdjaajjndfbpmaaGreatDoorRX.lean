import Derived.Test.YtdjaajjndfbpmaaGreatDoorZ21
set_option linter.unusedVariables false
set_option maxHeartbeats 8000000
set_option maxRecDepth 100000
namespace Go.Proofs.YtdjaajjndfbpmaaGreatDoor
open Proofs.Tryz
open Go.RowKit
def bN (w:World) (l:List UInt8) (e:Ending) (w':World):Prop:=∃ (is:List I3) (ok:Bool) (a:Option Addr) (cap:Nat),e=.returned (.tuple #[.agg #[.slice a is.length cap],.bool ok])/\w'.ownsRow w.heap.size 165 3 (.slice a is.length cap) is.length (J5 is)/\Z_ l is ok
theorem UM (s:ByteArray) (w:World) (hs:s.size<=1048576):
 Calls prog 125 #[.string s] w fun e w'=>bN w s.data.toList e w'/\Below w.heap.size w w':=by
 have hlen:s.data.toList.length=s.size:=X0;obtain ⟨i0,hi,hz0,hz1,hz2⟩:=Ze Rp;have hBR:Below w.heap.size w (w.alloc (.cells #[.slice none 0 0] 126)):=bA;by_cases xR:300<s.size
 · have Z:Hid (Z_ s.data.toList [] false):=Tg O0
   go_enter func125,ntmps125;go_wp2;refine K4 (v:=.tuple #[.agg #[.slice none 0 0],.bool false]) (by simp [results,results125,go_sem]) rfl ⟨⟨[],false,none,0,rfl,F9 _ _ _ _,Z.out⟩,hBR⟩
 go_enter func125,ntmps125
 go_wp2_with fail
 refine (c70 s 10 _ O0).mono ?_;rintro e w1 ⟨⟨g,cp,rfl,hg,hln⟩,hb1⟩;have hx1:Below (w.heap.size+1) (w.alloc (.cells #[.slice none 0 0] 126)) w1:=((F4 _ _).alloc X0 _).trans (hb1.mono X0);have hT1:w1.heap[w.heap.size+1]?=some (.cells #[.slice none 0 0] 126 (0,0)):=(hb1.block _ X0).trans (X6 X0 _);have HT1:=Q0 hT1;have hg2:w.heap.size+2<=g:=by simpa using hg
 have UX:=Q0 hln;have hz1':w.heap.size+2<=w1.heap.size:=by have:=hb1.size;simpa using this
 obtain ⟨hn1,hn2⟩:=Np 10 s.data.toList;have hcs:=zn 10 s.data.toList;have HCS:=Q0 hcs;have hgl:=hln.1;clear hT1 hb1 hln hg hcs
 go_wp2_with fail
 generalize hLs:E8 10 s.data.toList=E at*;have I:=Q0 hLs;clear hLs;go_loopw [6] (fun i wr=>∃ (k:Nat) (is:List I3) (v:Value),k+1<=E.length/\i=.int .i64 k/\is.length=k/\Hid (Di s.data.toList is k)/\Hid (∀ j,(is.getD j A_).tx.size<=1048700)/\Hid (wr.heap[w.heap.size+1]?=some (.cells #[v] 126 (0,0)))/\wr.ownsRow w1.heap.size 165 3 v is.length (J5 is)/\Hid (K7 wr g E)/\Below (w.heap.size+1) (w.alloc (.cells #[.slice none 0 0] 126)) wr/\w1.heap.size<=wr.heap.size) (fun i _=>E.length - (intOf i).toNat)
 case atStart=>exact ⟨0,[],.slice none 0 0,O0,rfl,rfl,Ni _,(fun j=>by simp [A_,ByteArray.size]),HT1,F9 _ _ _ _,UX,hx1,Q6 _⟩
 obtain ⟨k,is,v,Q,rfl,wY,hso,htx,hT,hown,bW,hbx,UR⟩:=hrel;subst wY;have hb:=hBR.trans (hbx.mono O0);by_cases hlt:is.length+1<E.length;rotate_left
 · obtain ⟨jU,HE2⟩:=Qm hso.out (by rw [I.out];omega) O0
   have H1:=Q0 jU;have H2:=Q0 HE2;clear jU HE2;have hRr:wr.cell? ⟨w.heap.size,0,none⟩=some (.slice none 0 0):=(hbx.cell (p:=⟨w.heap.size,0,none⟩) X0).trans (by simp [go_sem]);have hRf:wr.frozen? ⟨w.heap.size,0,none⟩=false:=(hbx.frozen (p:=⟨w.heap.size,0,none⟩) X0).trans (by simp [go_sem]);obtain ⟨y,x,hv,hat⟩:=J7 hown;subst hv;have HAT:=Q0 hat;have hTc:wr.cell? ⟨w.heap.size+1,0,none⟩=some (.slice y is.length x):=by rw [Z5 hT.out];rfl
   have hTs:=I7 s;clear hat hso hT;by_cases R:s.data.toList=[]
   · have Z:=Q0 (H2.out (fun h=>h.1 R))
     have e0:s.toList=[]:=by rw [hTs];exact R
     clear R H1 H2 hTs;go_wp2;refine K4 (v:=.tuple #[.agg #[.slice none 0 0],.bool false]) (by simp [results,results125,go_sem,O7 _ _ _ hRr]) rfl ⟨⟨[],false,none,0,rfl,F9 _ _ _ _,Z.out⟩,hb.setCell X0 _⟩
   have e0:s.toList.isEmpty=false:=by
    rw [hTs]
    cases hq:s.data.toList with
    | nil=>exact absurd hq R
    | cons a r=>rfl
   have e1:¬ s.toList=[]:=by rw [hTs];exact R
   have HTS:=Q0 hTs;clear hTs
   go_wp2_with fail
   refine (YB y x is wr htx.out O0 HAT.out).mono ?_;rintro e w5 ⟨rfl,hb5⟩;have QW:=bT hb hb5;have VU:=(hb5.cell (p:=⟨w.heap.size,0,none⟩) J4).trans hRr;have a2m:=(hb5.frozen (p:=⟨w.heap.size,0,none⟩) J4).trans hRf;have a2n:=(hb5.cell (p:=⟨w.heap.size+1,0,none⟩) J4).trans hTc;have hown5:=ownsRow_below hown hb5;have B:Hid ((w5.setCell ⟨w.heap.size,0,none⟩ (.slice y is.length x)).ownsRow w.heap.size 165 3 (.slice y is.length x) is.length (J5 is)):=D5 (Jr hown5 (a:=⟨w.heap.size,0,none⟩) (by show w.heap.size<w1.heap.size;omega) (.slice y is.length x)) O0;clear hRr hRf hTc hb5 hown hown5 HAT;by_cases hf:qd is=s.data.toList
   · have Z:=Q0 (H1.out ⟨R,hf⟩)
     have e2:((Q3 (qd is)).toList==s.toList)=true:=by rw [hf,HTS.out,I7];simp [Q3]
     clear hf R H1 H2;go_wp2;refine K4 (v:=.tuple #[.agg #[.slice y is.length x],.bool true]) (by simp [results,results125,go_sem,O7 _ _ _ VU]) rfl ⟨⟨is,true,y,x,rfl,B.out,Z.out⟩,QW.setCell X0 _⟩
   have Z:=Q0 (H2.out (fun h=>hf h.2));have e2:((Q3 (qd is)).toList==s.toList)=false:=by rw [HTS.out,I7];simpa [Q3] using hf
   clear hf R H1 H2;go_wp2;refine K4 (v:=.tuple #[.agg #[.slice none 0 0],.bool false]) (by simp [results,results125,go_sem,O7 _ _ _ VU]) rfl ⟨⟨[],false,none,0,rfl,F9 _ _ _ _,Z.out⟩,QW.setCell X0 _⟩
 have hgw:=bW.out.1;have l0:=past (by exact hgw) (bW.out.2 is.length O0);have hll:(E.getD is.length []).length<=300:=by have:=HCS.out is.length;omega
 generalize a0y:E.getD is.length []=d at*;have nT:=Q0 a0y;clear a0y;obtain ⟨hr1,hr2⟩:=p_ d
 go_wp2_with fail
 refine (ZK d _ O0).mono ?_;rintro e n ⟨⟨U,cpw,rfl,a0z,hws⟩,hb2⟩;have hb2':Below (wr.heap.size+1) (wr.alloc (.cells #[.int .i64 0,.string ⟨#[]⟩,.int .i64 0] 165)) n:=by have h:=hb2;simp at h;exact h
 have WU:=bA.trans (hb2'.mono O0);have hz2':wr.heap.size+1<=n.heap.size:=by have:=hb2'.size;simpa using this
 have M0:Hid (Mid wr.heap.size n n 0 ⟨#[]⟩ 0):=⟨But.refl _ _,(hb2'.block _ O0).trans (X6 rfl _)⟩;have a4a:wr.heap.size+1<=U:=by simpa using a0z
 have hwc:n.cell? ⟨U,0,none⟩=some (.string (Q3 (O1 d))):=hws.2 0 X0;have hwl:=hws.1;have HT2:=Q0 ((WU.block _ O0).trans hT.out);have hown2:=ownsRow_below hown WU;have gW:Hid (v.ownBlock≠some wr.heap.size):=fun e=>by have:=(hown.lt _ e).2;omega
 have HL2:=Q0 (Je bW.out WU);have GR:=hbx.trans (WU.mono O0);clear hb2 hb2' hws a0z l0 hT hown bW hbx hb WU
 go_wp2_with fail
 generalize hX:wr.heap.size=X at*;clear hX;go_loopw [10] (fun p wq=>∃ (q:Nat) (o:Int),1<=q/\q<=12/\p=.int .i64 q/\Hid (Mid X n wq o ⟨#[]⟩ 0)/\Hid (DC d q o)) (fun p _=>12 - (intOf p).toNat)
 case atStart=>exact ⟨1,0,O0,O0,rfl,M0,.inl ⟨rfl,fun p h1 h2=>O0⟩⟩
 obtain ⟨q,o,hq1,hq2,rfl,F,xY⟩:=hrel;have yY:=(F.out.but.cell (p:=⟨U,0,none⟩) hwl (by show U≠X;omega)).trans hwc;have a0A:=D7 hwl F.out.but.size;by_cases hq:q<=11
 · by_cases hw:word q=O1 d
   · have e1:((Gc q).toList==(Q3 (O1 d)).toList)=true:=by rw [Ya,hw];simp
     have V:=Q0 (qH xY.out hq1 hw);clear hw
     go_wp2_with fail
     go_region_with (go_at_call 103;refine (WI _ _).mono ?_;rintro e wz ⟨rfl,hbz⟩;have hwz:wz.cell? ⟨U,0,none⟩=some (.string (Q3 (O1 d))):=(hbz.cell (p:=⟨U,0,none⟩) a0A).trans yY;have c:Hid (Mid X n wz o ⟨#[]⟩ 0):=F.out.below (Below.trans ((F4 _ _).drew) hbz);have c0:=c.out.cells.1.1;have f0:=c.out.cells.2.1)
     all_goals go_wp2
     all_goals go_roundw
     all_goals first
      | exact ⟨q+1,q,O0,O0,by go_num,c.out.set0 _,V⟩
      | (simp [intOf];omega)
   have e1:((Gc q).toList==(Q3 (O1 d)).toList)=false:=by
    rw [Ya,I7,I7];simpa [Q3] using hw
   have V:=Q0 (TI xY.out hw);clear hw
   go_wp2_with fail
   go_region_with (go_at_call 103;refine (WI _ _).mono ?_;rintro e wz ⟨rfl,hbz⟩;have hwz:wz.cell? ⟨U,0,none⟩=some (.string (Q3 (O1 d))):=(hbz.cell (p:=⟨U,0,none⟩) a0A).trans yY;have c:Hid (Mid X n wz o ⟨#[]⟩ 0):=F.out.below (Below.trans ((F4 _ _).drew) hbz))
   all_goals go_wp2
   all_goals go_roundw
   all_goals first
    | exact ⟨q+1,o,O0,O0,by go_num,c,V⟩
    | (simp [intOf];omega)
 obtain rfl:q=12:=O0;have V:=Q0 (vG xY.out);clear yY;obtain ⟨⟨P,O,L⟩,n0,K,J⟩:=F.out.cells
 go_wp2_with fail
 refine (vI o _).mono ?_;rintro e w5 ⟨rfl,XR⟩;obtain rfl:=XR.symm;cases hO:Z7 o <;> cases hX:M8 o
 · have c:=F
   have zV:=Q0 (dD V.out hO hX);clear hO hX;have m:=(c.out.but.block _ O0 O0).trans HT2.out;have D:=Q0 m;have tc:(wr).cell? ⟨w.heap.size+1,0,none⟩=some v:=by rw [Z5 m];rfl
   have tf:=B_ m 0;have l:=Am hown2 c.out.but gW.out;have zY:=Q0 (Ic HL2.out c.out.but O0);have W:=GR.trans (c.out.but.below O0 O0);have hzz:n.heap.size<=wr.heap.size:=by have:=c.out.but.size;simpa using this
   obtain ⟨⟨r0,r1,r2⟩,_,_,_⟩:=c.out.cells;have HP:=Q0 (Vd hso.out (by rw [I.out];exact hlt) (by rw [I.out,nT.out];exact zV.out));have Y:Hid (∀ j,((is++[(⟨o,⟨#[]⟩,0⟩:I3)]).getD j A_).tx.size<=1048700):=Td htx.out (by show ByteArray.size _<=1048700;exact I5 _);clear m
   go_wp2_with (at_builtin;refine wpList_append_own _ rfl _ _ 124 rfl w1.heap.size 165 i0 (.agg #[.int .i64 0,.string ⟨#[]⟩,.int .i64 0]) 3 32 underlying124 hi hz0 hz1 hz2 rfl K3 _ _ _ rfl (l.alloc _) ⟨wr.heap.size,0,none⟩ 1 1 [_,_,_] rfl rfl (Vh X0 _ _ _ _) (by intro u C;simp at C;rcases C with rfl | rfl | rfl <;> rfl) (by unfold maxLen;omega) O0 J4 ?_;intro v' b B f _;have z:Hid (b.heap[w.heap.size+1]?=some (.cells #[v] 126 (0,0))):=Ud (v:=v) (by rw [Below.heap_alloc _ _ _ (Q4 D.out)];exact D.out) (fun e=>by have:=(l.lt _ e).1;omega) f;have AY:Hid (K7 b g E):=ng (Je zY.out bA) f (fun e=>by have:=(l.lt _ e.symm).1;omega);have HG:Hid (Below (w.heap.size+1) (w.alloc (.cells #[.slice none 0 0] 126)) b):=(W.alloc (by first | omega | (simp;omega)) _).grown f J4 (fun k Q=>by have:=(l.lt k Q).1;omega);have QS:wr.heap.size+1<=b.heap.size:=(by have:=f.size;simp at this;omega);obtain ⟨y,x,rfl⟩:=E9 B;have d1:b.cell? ⟨w.heap.size+1,0,none⟩=some v:=(by rw [Lib.cell_of_heap z.out];rfl);have f1:b.frozen? ⟨w.heap.size+1,0,none⟩=false:=Lib.frozen_of_heap z.out 0;clear f)
   go_roundw
   case rel=>
    refine ⟨is.length+1,is++[(⟨o,⟨#[]⟩,0⟩:I3)],.slice y (is.length+1) x,O0,by go_num,X0,HP,Y,?_,?_,Ic AY.out ((But.refl (w.heap.size+1) b).setCell 0 _) O0,HG.out.setCell X0 _,J4⟩
    · exact o8 b (w.heap.size+1) 0 _ _ _ z.out
    rw [V_,Q7];exact Jr B (by show w.heap.size+1<w1.heap.size;omega) _
   case measure=>simp [intOf];omega
 · have HPQ:Hid (∀ t,(∀ q,I1 d=V4 q->t=q)->ug d ⟨o,Q3 t,0⟩):=fun t ht=>gD V.out hO hX ht
   clear hO hX
   go_wp2_with fail
   refine (fJ (I1 d) _ O0).mono ?_;rintro e A ⟨⟨t,rfl,htl,DY⟩,S⟩;have zV:=Q0 (HPQ.out t DY);have H:=Q0 (F.out.below S);clear DY HPQ S P O L n0 K J;obtain ⟨⟨P,O,L⟩,n0,K,J⟩:=H.out.cells;have c:Hid (Mid X n (A.setCell ⟨X,1,none⟩ (.string (Q3 t))) o (Q3 t) 0):=H.out.set1 _;have m:=(c.out.but.block _ O0 O0).trans HT2.out;have D:=Q0 m;have tc:(A.setCell ⟨X,1,none⟩ (.string (Q3 t))).cell? ⟨w.heap.size+1,0,none⟩=some v:=by rw [Z5 m];rfl
   have tf:=B_ m 0;have l:=Am hown2 c.out.but gW.out;have zY:=Q0 (Ic HL2.out c.out.but O0);have W:=GR.trans (c.out.but.below O0 O0);have hzz:n.heap.size<=A.heap.size:=by have:=c.out.but.size;simpa using this
   obtain ⟨⟨r0,r1,r2⟩,_,_,_⟩:=c.out.cells;have HP:=Q0 (Vd hso.out (by rw [I.out];exact hlt) (by rw [I.out,nT.out];exact zV.out));have Y:Hid (∀ j,((is++[(⟨o,(Q3 t),0⟩:I3)]).getD j A_).tx.size<=1048700):=Td htx.out (by show ByteArray.size _<=1048700;rw [J3];omega);clear m
   go_wp2_with (at_builtin;refine wpList_append_own _ rfl _ _ 124 rfl w1.heap.size 165 i0 (.agg #[.int .i64 0,.string ⟨#[]⟩,.int .i64 0]) 3 32 underlying124 hi hz0 hz1 hz2 rfl K3 _ _ _ rfl (l.alloc _) ⟨A.heap.size,0,none⟩ 1 1 [_,_,_] rfl rfl (Vh X0 _ _ _ _) (by intro u C;simp at C;rcases C with rfl | rfl | rfl <;> rfl) (by unfold maxLen;omega) O0 J4 ?_;intro v' b B f _;have z:Hid (b.heap[w.heap.size+1]?=some (.cells #[v] 126 (0,0))):=Ud (v:=v) (by rw [Below.heap_alloc _ _ _ (Q4 D.out)];exact D.out) (fun e=>by have:=(l.lt _ e).1;omega) f;have AY:Hid (K7 b g E):=ng (Je zY.out bA) f (fun e=>by have:=(l.lt _ e.symm).1;omega);have HG:Hid (Below (w.heap.size+1) (w.alloc (.cells #[.slice none 0 0] 126)) b):=(W.alloc (by first | omega | (simp;omega)) _).grown f J4 (fun k Q=>by have:=(l.lt k Q).1;omega);have QS:A.heap.size+1<=b.heap.size:=(by have:=f.size;simp at this;omega);obtain ⟨y,x,rfl⟩:=E9 B;have d1:b.cell? ⟨w.heap.size+1,0,none⟩=some v:=(by rw [Lib.cell_of_heap z.out];rfl);have f1:b.frozen? ⟨w.heap.size+1,0,none⟩=false:=Lib.frozen_of_heap z.out 0;clear f)
   go_roundw
   case rel=>
    refine ⟨is.length+1,is++[(⟨o,(Q3 t),0⟩:I3)],.slice y (is.length+1) x,O0,by go_num,X0,HP,Y,?_,?_,Ic AY.out ((But.refl (w.heap.size+1) b).setCell 0 _) O0,HG.out.setCell X0 _,J4⟩
    · exact o8 b (w.heap.size+1) 0 _ _ _ z.out
    rw [V_,Q7];exact Jr B (by show w.heap.size+1<w1.heap.size;omega) _
   case measure=>simp [intOf];omega
 · have zV:=Q0 (PD V.out hO hX)
   clear hO hX
   go_wp2_with fail
   refine (ZK (I1 d) _ O0).mono ?_;rintro e w7 ⟨⟨gn,cpn,rfl,hgn,hns⟩,EU⟩;have nsc:w7.cell? ⟨gn,0,none⟩=some (.string (Q3 (O1 (I1 d)))):=hns.2 0 X0;have hr3:=p_ (I1 d);have M7:=Q0 (F.out.below EU);clear hns hgn EU P O L n0 K J
   go_wp2_with fail
   refine (sK (O1 (I1 d)) _ O0).mono ?_;rintro e A ⟨rfl,S⟩;have H:=Q0 (M7.out.below S);clear S nsc M7;obtain ⟨⟨P,O,L⟩,n0,K,J⟩:=H.out.cells;have c:Hid (Mid X n (A.setCell ⟨X,2,none⟩ (.int .i64 (n29 (O1 (I1 d))))) o ⟨#[]⟩ (n29 (O1 (I1 d)))):=H.out.set2 _;have m:=(c.out.but.block _ O0 O0).trans HT2.out;have D:=Q0 m;have tc:(A.setCell ⟨X,2,none⟩ (.int .i64 (n29 (O1 (I1 d))))).cell? ⟨w.heap.size+1,0,none⟩=some v:=by rw [Z5 m];rfl
   have tf:=B_ m 0;have l:=Am hown2 c.out.but gW.out;have zY:=Q0 (Ic HL2.out c.out.but O0);have W:=GR.trans (c.out.but.below O0 O0);have hzz:n.heap.size<=A.heap.size:=by have:=c.out.but.size;simpa using this
   obtain ⟨⟨r0,r1,r2⟩,_,_,_⟩:=c.out.cells;have HP:=Q0 (Vd hso.out (by rw [I.out];exact hlt) (by rw [I.out,nT.out];exact zV.out));have Y:Hid (∀ j,((is++[(⟨o,⟨#[]⟩,(n29 (O1 (I1 d)))⟩:I3)]).getD j A_).tx.size<=1048700):=Td htx.out (by show ByteArray.size _<=1048700;exact I5 _);clear m
   go_wp2_with (at_builtin;refine wpList_append_own _ rfl _ _ 124 rfl w1.heap.size 165 i0 (.agg #[.int .i64 0,.string ⟨#[]⟩,.int .i64 0]) 3 32 underlying124 hi hz0 hz1 hz2 rfl K3 _ _ _ rfl (l.alloc _) ⟨A.heap.size,0,none⟩ 1 1 [_,_,_] rfl rfl (Vh X0 _ _ _ _) (by intro u C;simp at C;rcases C with rfl | rfl | rfl <;> rfl) (by unfold maxLen;omega) O0 J4 ?_;intro v' b B f _;have z:Hid (b.heap[w.heap.size+1]?=some (.cells #[v] 126 (0,0))):=Ud (v:=v) (by rw [Below.heap_alloc _ _ _ (Q4 D.out)];exact D.out) (fun e=>by have:=(l.lt _ e).1;omega) f;have AY:Hid (K7 b g E):=ng (Je zY.out bA) f (fun e=>by have:=(l.lt _ e.symm).1;omega);have HG:Hid (Below (w.heap.size+1) (w.alloc (.cells #[.slice none 0 0] 126)) b):=(W.alloc (by first | omega | (simp;omega)) _).grown f J4 (fun k Q=>by have:=(l.lt k Q).1;omega);have QS:A.heap.size+1<=b.heap.size:=(by have:=f.size;simp at this;omega);obtain ⟨y,x,rfl⟩:=E9 B;have d1:b.cell? ⟨w.heap.size+1,0,none⟩=some v:=(by rw [Lib.cell_of_heap z.out];rfl);have f1:b.frozen? ⟨w.heap.size+1,0,none⟩=false:=Lib.frozen_of_heap z.out 0;clear f)
   go_roundw
   case rel=>
    refine ⟨is.length+1,is++[(⟨o,⟨#[]⟩,(n29 (O1 (I1 d)))⟩:I3)],.slice y (is.length+1) x,O0,by go_num,X0,HP,Y,?_,?_,Ic AY.out ((But.refl (w.heap.size+1) b).setCell 0 _) O0,HG.out.setCell X0 _,J4⟩
    · exact o8 b (w.heap.size+1) 0 _ _ _ z.out
    rw [V_,Q7];exact Jr B (by show w.heap.size+1<w1.heap.size;omega) _
   case measure=>simp [intOf];omega
 have HPQ:Hid (∀ t,(∀ q,I1 (I1 d)=V4 q->t=q)->ug d ⟨o,Q3 t,n29 (O1 (I1 d))⟩):=fun t ht=>FC V.out hO hX ht;clear hO hX
 go_wp2_with fail
 refine (ZK (I1 d) _ O0).mono ?_;rintro e w7 ⟨⟨gn,cpn,rfl,hgn,hns⟩,EU⟩;have nsc:w7.cell? ⟨gn,0,none⟩=some (.string (Q3 (O1 (I1 d)))):=hns.2 0 X0;have hr3:=p_ (I1 d);have M7:=Q0 (F.out.below EU);clear hns hgn EU P O L n0 K J
 go_wp2_with fail
 refine (sK (O1 (I1 d)) _ O0).mono ?_;rintro e A ⟨rfl,S⟩;have H:=Q0 (M7.out.below S);clear S nsc M7;obtain ⟨⟨P,O,L⟩,n0,K,J⟩:=H.out.cells;have M9:Hid (Mid X n (A.setCell ⟨X,2,none⟩ (.int .i64 (n29 (O1 (I1 d))))) o ⟨#[]⟩ (n29 (O1 (I1 d)))):=H.out.set2 _
 go_wp2_with fail
 refine (fJ (I1 (I1 d)) _ O0).mono ?_;rintro e w9 ⟨⟨t,rfl,htl,DY⟩,hb9⟩;have zV:=Q0 (HPQ.out t DY);have M10:=Q0 (M9.out.below hb9);clear DY HPQ hb9 P O L n0 K J H M9;generalize n29 (O1 (I1 d))=N at*;obtain ⟨⟨P,O,L⟩,n0,K,J⟩:=M10.out.cells;have c:Hid (Mid X n (w9.setCell ⟨X,1,none⟩ (.string (Q3 t))) o (Q3 t) N):=M10.out.set1 _;have m:=(c.out.but.block _ O0 O0).trans HT2.out;have D:=Q0 m;have tc:(w9.setCell ⟨X,1,none⟩ (.string (Q3 t))).cell? ⟨w.heap.size+1,0,none⟩=some v:=by rw [Z5 m];rfl
 have tf:=B_ m 0;have l:=Am hown2 c.out.but gW.out;have zY:=Q0 (Ic HL2.out c.out.but O0);have W:=GR.trans (c.out.but.below O0 O0);have hzz:n.heap.size<=w9.heap.size:=by have:=c.out.but.size;simpa using this
 obtain ⟨⟨r0,r1,r2⟩,_,_,_⟩:=c.out.cells;have HP:=Q0 (Vd hso.out (by rw [I.out];exact hlt) (by rw [I.out,nT.out];exact zV.out));have Y:Hid (∀ j,((is++[(⟨o,(Q3 t),N⟩:I3)]).getD j A_).tx.size<=1048700):=Td htx.out (by show ByteArray.size _<=1048700;rw [J3];omega);clear m
 go_wp2_with (at_builtin;refine wpList_append_own _ rfl _ _ 124 rfl w1.heap.size 165 i0 (.agg #[.int .i64 0,.string ⟨#[]⟩,.int .i64 0]) 3 32 underlying124 hi hz0 hz1 hz2 rfl K3 _ _ _ rfl (l.alloc _) ⟨w9.heap.size,0,none⟩ 1 1 [_,_,_] rfl rfl (Vh X0 _ _ _ _) (by intro u C;simp at C;rcases C with rfl | rfl | rfl <;> rfl) (by unfold maxLen;omega) O0 J4 ?_;intro v' b B f _;have z:Hid (b.heap[w.heap.size+1]?=some (.cells #[v] 126 (0,0))):=Ud (v:=v) (by rw [Below.heap_alloc _ _ _ (Q4 D.out)];exact D.out) (fun e=>by have:=(l.lt _ e).1;omega) f;have AY:Hid (K7 b g E):=ng (Je zY.out bA) f (fun e=>by have:=(l.lt _ e.symm).1;omega);have HG:Hid (Below (w.heap.size+1) (w.alloc (.cells #[.slice none 0 0] 126)) b):=(W.alloc (by first | omega | (simp;omega)) _).grown f J4 (fun k Q=>by have:=(l.lt k Q).1;omega);have QS:w9.heap.size+1<=b.heap.size:=(by have:=f.size;simp at this;omega);obtain ⟨y,x,rfl⟩:=E9 B;have d1:b.cell? ⟨w.heap.size+1,0,none⟩=some v:=(by rw [Lib.cell_of_heap z.out];rfl);have f1:b.frozen? ⟨w.heap.size+1,0,none⟩=false:=Lib.frozen_of_heap z.out 0;clear f)
 go_roundw
 case rel=>
  refine ⟨is.length+1,is++[(⟨o,(Q3 t),N⟩:I3)],.slice y (is.length+1) x,O0,by go_num,X0,HP,Y,?_,?_,Ic AY.out ((But.refl (w.heap.size+1) b).setCell 0 _) O0,HG.out.setCell X0 _,J4⟩
  · exact o8 b (w.heap.size+1) 0 _ _ _ z.out
  rw [V_,Q7];exact Jr B (by show w.heap.size+1<w1.heap.size;omega) _
 case measure=>simp [intOf];omega
end Go.Proofs.YtdjaajjndfbpmaaGreatDoor
