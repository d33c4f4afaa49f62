import Derived.Test.YtdpoaadafcaffaaGreatDoorZ22
set_option linter.unusedVariables false
set_option maxHeartbeats 8000000
set_option maxRecDepth 100000
namespace Go.Proofs.YtdpoaadafcaffaaGreatDoor
open Proofs.Tryz
open Go.RowKit
def RH (w:World) (l:List UInt8) (e:Ending) (w':World):Prop:=∃ (is:List I3) (ok:Bool) (a:Option Addr) (cap:Nat),e=.returned (.tuple #[.agg #[.slice a is.length cap],.bool ok])/\w'.ownsRow w.heap.size 121 3 (.slice a is.length cap) is.length (D5 is)/\p_ l is ok
theorem bI (s:ByteArray) (w:World) (hs:s.size<=1048576):
 Calls prog 125 #[.string s] w fun e w'=>RH w s.data.toList e w'/\Below w.heap.size w w':=by
 have hlen:s.data.toList.length=s.size:=U0;obtain ⟨i0,hi,hz0,hz1,hz2⟩:=info_parts Jk;have hBR:Below w.heap.size w (w.alloc (.cells #[.slice none 0 0] 109)):=bA;by_cases KL:300<s.size
 · have HR:Hid (p_ s.data.toList [] false):=Be O0
   go_enter func125,ntmps125;go_wp2;refine bodyPost_ret (v:=.tuple #[.agg #[.slice none 0 0],.bool false]) (by simp [results,Tryz.results125,go_sem]) rfl ⟨⟨[],false,none,0,rfl,World.ownsRow_nil _ _ _ _,HR.out⟩,hBR⟩
 go_enter func125,ntmps125
 go_wp2_with fail
 refine (PH s 10 _ O0).mono ?_;rintro e w1 ⟨⟨g,cp,rfl,hg,hln⟩,hb1⟩;have hx1:Below (w.heap.size+1) (w.alloc (.cells #[.slice none 0 0] 109)) w1:=((Below.refl _ _).alloc U0 _).trans (hb1.mono U0);have hT1:w1.heap[w.heap.size+1]?=some (.cells #[.slice none 0 0] 109 (0,0)):=(hb1.block _ U0).trans (M5 U0 _);have HT1:=Q0 hT1;have hg2:w.heap.size+2<=g:=by simpa using hg
 have JM:=Q0 hln;have hz1':w.heap.size+2<=w1.heap.size:=by have:=hb1.size;simpa using this
 obtain ⟨hn1,hn2⟩:=Pk 10 s.data.toList;have hcs:=Sj 10 s.data.toList;have HCS:=Q0 hcs;have hgl:=hln.1;clear hT1 hb1 hln hg hcs
 go_wp2_with fail
 generalize hLs:Z6 10 s.data.toList=Ls at*;have TQ:=Q0 hLs;clear hLs;go_loopw [6] (fun i wr=>∃ (k:Nat) (is:List I3) (v:Value),k+1<=Ls.length/\i=.int .i64 k/\is.length=k/\Hid (lg s.data.toList is k)/\Hid (∀ j,(is.getD j K9).tx.size<=1048700)/\Hid (wr.heap[w.heap.size+1]?=some (.cells #[v] 109 (0,0)))/\wr.ownsRow w1.heap.size 121 3 v is.length (D5 is)/\Hid (P6 wr g Ls)/\Below (w.heap.size+1) (w.alloc (.cells #[.slice none 0 0] 109)) wr/\w1.heap.size<=wr.heap.size) (fun i _=>Ls.length - (intOf i).toNat)
 case atStart=>exact ⟨0,[],.slice none 0 0,O0,rfl,rfl,Zf _,(fun j=>by simp [K9,ByteArray.size]),HT1,World.ownsRow_nil _ _ _ _,JM,hx1,Nat.le_refl _⟩
 obtain ⟨k,is,v,hk,rfl,eX,hso,htx,hT,hown,AP,hbx,qO⟩:=hrel;subst eX;have hb:=hBR.trans (hbx.mono O0);by_cases hlt:is.length+1<Ls.length;rotate_left
 · obtain ⟨uS,HE2⟩:=Oj hso.out (by rw [TQ.out];omega) O0
   have H1:=Q0 uS;have H2:=Q0 HE2;clear uS HE2;have hRr:wr.cell? ⟨w.heap.size,0,none⟩=some (.slice none 0 0):=(hbx.cell (p:=⟨w.heap.size,0,none⟩) U0).trans (by simp [go_sem]);have iX:wr.frozen? ⟨w.heap.size,0,none⟩=false:=(hbx.frozen (p:=⟨w.heap.size,0,none⟩) U0).trans (by simp [go_sem]);obtain ⟨ao,BM,hv,hat⟩:=U6 hown;subst hv;have HAT:=Q0 hat;have aZ:wr.cell? ⟨w.heap.size+1,0,none⟩=some (.slice ao is.length BM):=by rw [Lib.cell_of_heap hT.out];rfl
   have hTs:=ByteArray.toList_eq s;clear hat hso hT;by_cases he:s.data.toList=[]
   · have HR:=Q0 (H2.out (fun h=>h.1 he))
     have e0:s.toList=[]:=by rw [hTs];exact he
     clear he H1 H2 hTs;go_wp2;refine bodyPost_ret (v:=.tuple #[.agg #[.slice none 0 0],.bool false]) (by simp [results,Tryz.results125,go_sem,World.cell?_setCell_same _ _ _ hRr]) rfl ⟨⟨[],false,none,0,rfl,World.ownsRow_nil _ _ _ _,HR.out⟩,hb.setCell U0 _⟩
   have e0:s.toList.isEmpty=false:=by
    rw [hTs]
    cases hq:s.data.toList with
    | nil=>exact absurd hq he
    | cons a r=>rfl
   have e1:¬ s.toList=[]:=by rw [hTs];exact he
   have vS:=Q0 hTs;clear hTs
   go_wp2_with fail
   refine (gy ao BM is wr htx.out O0 HAT.out).mono ?_;rintro e w5 ⟨rfl,hb5⟩;have NN:=bT hb hb5;have wS:=(hb5.cell (p:=⟨w.heap.size,0,none⟩) X3).trans hRr;have a2a:=(hb5.frozen (p:=⟨w.heap.size,0,none⟩) X3).trans iX;have a2b:=(hb5.cell (p:=⟨w.heap.size+1,0,none⟩) X3).trans aZ;have hown5:=ownsRow_below hown hb5;have hown6:Hid ((w5.setCell ⟨w.heap.size,0,none⟩ (.slice ao is.length BM)).ownsRow w.heap.size 121 3 (.slice ao is.length BM) is.length (D5 is)):=V4 (ownsRow_setCell_below hown5 (a:=⟨w.heap.size,0,none⟩) (by show w.heap.size<w1.heap.size;omega) (.slice ao is.length BM)) O0;clear hRr iX aZ hb5 hown hown5 HAT;by_cases hf:Bb is=s.data.toList
   · have HR:=Q0 (H1.out ⟨he,hf⟩)
     have e2:((K3 (Bb is)).toList==s.toList)=true:=by rw [hf,vS.out,ByteArray.toList_eq];simp [K3]
     clear hf he H1 H2;go_wp2;refine bodyPost_ret (v:=.tuple #[.agg #[.slice ao is.length BM],.bool true]) (by simp [results,Tryz.results125,go_sem,World.cell?_setCell_same _ _ _ wS]) rfl ⟨⟨is,true,ao,BM,rfl,hown6.out,HR.out⟩,NN.setCell U0 _⟩
   have HR:=Q0 (H2.out (fun h=>hf h.2));have e2:((K3 (Bb is)).toList==s.toList)=false:=by rw [vS.out,ByteArray.toList_eq];simpa [K3] using hf
   clear hf he H1 H2;go_wp2;refine bodyPost_ret (v:=.tuple #[.agg #[.slice none 0 0],.bool false]) (by simp [results,Tryz.results125,go_sem,World.cell?_setCell_same _ _ _ wS]) rfl ⟨⟨[],false,none,0,rfl,World.ownsRow_nil _ _ _ _,HR.out⟩,NN.setCell U0 _⟩
 have hgw:=AP.out.1;have l0:=past (by exact hgw) (AP.out.2 is.length O0);have hll:(Ls.getD is.length []).length<=300:=by have:=HCS.out is.length;omega
 generalize a0l:Ls.getD is.length []=ln at*;have lM:=Q0 a0l;clear a0l;obtain ⟨hr1,hr2⟩:=I9 ln
 go_wp2_with fail
 refine (wB ln _ O0).mono ?_;rintro e w2 ⟨⟨gw,cpw,rfl,a0m,hws⟩,hb2⟩;have hb2':Below (wr.heap.size+1) (wr.alloc (.cells #[.int .i64 0,.string ⟨#[]⟩,.int .i64 0] 121)) w2:=by have h:=hb2;simp at h;exact h
 have VM:=bA.trans (hb2'.mono O0);have hz2':wr.heap.size+1<=w2.heap.size:=by have:=hb2'.size;simpa using this
 have M0:Hid (Mid wr.heap.size w2 w2 0 ⟨#[]⟩ 0):=⟨But.refl _ _,(hb2'.block _ O0).trans (M5 rfl _)⟩;have a3I:wr.heap.size+1<=gw:=by simpa using a0m
 have hwc:w2.cell? ⟨gw,0,none⟩=some (.string (K3 (U1 ln))):=hws.2 0 U0;have hwl:=hws.1;have HT2:=Q0 ((VM.block _ O0).trans hT.out);have hown2:=ownsRow_below hown VM;have vU:Hid (v.ownBlock≠some wr.heap.size):=fun e=>by have:=(hown.lt _ e).2;omega
 have HL2:=Q0 (Dc AP.out VM);have TL:=hbx.trans (VM.mono O0);clear hb2 hb2' hws a0m l0 hT hown AP hbx hb VM
 go_wp2_with fail
 generalize hX:wr.heap.size=X at*;clear hX;go_loopw [10] (fun p wq=>∃ (q:Nat) (o:Int),1<=q/\q<=12/\p=.int .i64 q/\Hid (Mid X w2 wq o ⟨#[]⟩ 0)/\Hid (Tw ln q o)) (fun p _=>12 - (intOf p).toNat)
 case atStart=>exact ⟨1,0,O0,O0,rfl,M0,.inl ⟨rfl,fun p h1 h2=>O0⟩⟩
 obtain ⟨q,o,hq1,hq2,rfl,hmid,jX⟩:=hrel;have kX:=(hmid.out.but.cell (p:=⟨gw,0,none⟩) hwl (by show gw≠X;omega)).trans hwc;have a0n:=Nat.lt_of_lt_of_le hwl hmid.out.but.size;by_cases hq:q<=11
 · by_cases hw:word q=U1 ln
   · have e1:((Na q).toList==(K3 (U1 ln)).toList)=true:=by rw [Q_,hw];simp
     have HO:=Q0 (Rz jX.out hq1 hw);clear hw
     go_wp2_with fail
     go_region_with (go_at_call 97;refine (wI _ _).mono ?_;rintro e wz ⟨rfl,hbz⟩;have hwz:wz.cell? ⟨gw,0,none⟩=some (.string (K3 (U1 ln))):=(hbz.cell (p:=⟨gw,0,none⟩) a0n).trans kX;have MZ:Hid (Mid X w2 wz o ⟨#[]⟩ 0):=hmid.out.below (Below.trans ((Below.refl _ _).drew) hbz);have c0:=MZ.out.cells.1.1;have f0:=MZ.out.cells.2.1)
     all_goals go_wp2
     all_goals go_roundw
     all_goals first
      | exact ⟨q+1,q,O0,O0,by go_num,MZ.out.set0 _,HO⟩
      | (simp [intOf];omega)
   have e1:((Na q).toList==(K3 (U1 ln)).toList)=false:=by
    rw [Q_,ByteArray.toList_eq,ByteArray.toList_eq];simpa [K3] using hw
   have HO:=Q0 (MC jX.out hw);clear hw
   go_wp2_with fail
   go_region_with (go_at_call 97;refine (wI _ _).mono ?_;rintro e wz ⟨rfl,hbz⟩;have hwz:wz.cell? ⟨gw,0,none⟩=some (.string (K3 (U1 ln))):=(hbz.cell (p:=⟨gw,0,none⟩) a0n).trans kX;have MZ:Hid (Mid X w2 wz o ⟨#[]⟩ 0):=hmid.out.below (Below.trans ((Below.refl _ _).drew) hbz))
   all_goals go_wp2
   all_goals go_roundw
   all_goals first
    | exact ⟨q+1,o,O0,O0,by go_num,MZ,HO⟩
    | (simp [intOf];omega)
 obtain rfl:q=12:=O0;have HO:=Q0 (UA jX.out);clear kX;obtain ⟨⟨m0,m1,m2⟩,n0,n1,n2⟩:=hmid.out.cells
 go_wp2_with fail
 refine (vI o _).mono ?_;rintro e w5 ⟨rfl,pO⟩;obtain rfl:=pO.symm;cases hO:Y6 o <;> cases hX:N7 o
 · have MZ:=hmid
   have PT:=Q0 (ny HO.out hO hX);clear hO hX;have sO:=(MZ.out.but.block _ O0 O0).trans HT2.out;have xS:=Q0 sO;have tc:(wr).cell? ⟨w.heap.size+1,0,none⟩=some v:=by rw [Lib.cell_of_heap sO];rfl
   have tf:=Lib.frozen_of_heap sO 0;have UL:=Li hown2 MZ.out.but vU.out;have lX:=Q0 (La HL2.out MZ.out.but O0);have BP:=TL.trans (MZ.out.but.below O0 O0);have hzz:w2.heap.size<=wr.heap.size:=by have:=MZ.out.but.size;simpa using this
   obtain ⟨⟨r0,r1,r2⟩,_,_,_⟩:=MZ.out.cells;have HP:=Q0 (Cb hso.out (by rw [TQ.out];exact hlt) (by rw [TQ.out,lM.out];exact PT.out));have mX:Hid (∀ j,((is++[(⟨o,⟨#[]⟩,0⟩:I3)]).getD j K9).tx.size<=1048700):=Nb htx.out (by show ByteArray.size _<=1048700;exact Nat.zero_le _);clear sO
   go_wp2_with (at_builtin;refine wpList_append_own _ rfl _ _ 107 rfl w1.heap.size 121 i0 (.agg #[.int .i64 0,.string ⟨#[]⟩,.int .i64 0]) 3 32 underlying107 hi hz0 hz1 hz2 rfl J3 _ _ _ rfl (UL.alloc _) ⟨wr.heap.size,0,none⟩ 1 1 [_,_,_] rfl rfl (Ff U0 _ _ _ _) (by intro u hu;simp at hu;rcases hu with rfl | rfl | rfl <;> rfl) (by unfold maxLen;omega) O0 X3 ?_;intro v' w6 hown6 hgrow _;have QL:Hid (w6.heap[w.heap.size+1]?=some (.cells #[v] 109 (0,0))):=Eb (v:=v) (by rw [Below.heap_alloc _ _ _ (F4 xS.out)];exact xS.out) (fun e=>by have:=(UL.lt _ e).1;omega) hgrow;have VO:Hid (P6 w6 g Ls):=Od (Dc lX.out bA) hgrow (fun e=>by have:=(UL.lt _ e.symm).1;omega);have HG:Hid (Below (w.heap.size+1) (w.alloc (.cells #[.slice none 0 0] 109)) w6):=(BP.alloc (by first | omega | (simp;omega)) _).grown hgrow X3 (fun k hk=>by have:=(UL.lt k hk).1;omega);have FO:wr.heap.size+1<=w6.heap.size:=(by have:=hgrow.size;simp at this;omega);obtain ⟨ao,BM,rfl⟩:=E8 hown6;have d1:w6.cell? ⟨w.heap.size+1,0,none⟩=some v:=(by rw [Lib.cell_of_heap QL.out];rfl);have f1:w6.frozen? ⟨w.heap.size+1,0,none⟩=false:=Lib.frozen_of_heap QL.out 0;clear hgrow)
   go_roundw
   case rel=>
    refine ⟨is.length+1,is++[(⟨o,⟨#[]⟩,0⟩:I3)],.slice ao (is.length+1) BM,O0,by go_num,U0,HP,mX,?_,?_,La VO.out ((But.refl (w.heap.size+1) w6).setCell 0 _) O0,HG.out.setCell U0 _,X3⟩
    · exact heap_setCell_same w6 (w.heap.size+1) 0 _ _ _ QL.out
    rw [m_,List.length_append];exact ownsRow_setCell_below hown6 (by show w.heap.size+1<w1.heap.size;omega) _
   case measure=>simp [intOf];omega
 · have HPQ:Hid (∀ t,(∀ q,Z0 ln=J4 q->t=q)->Wd ln ⟨o,K3 t,0⟩):=fun t ht=>Wx HO.out hO hX ht
   clear hO hX
   go_wp2_with fail
   refine (Yu (Z0 ln) _ O0).mono ?_;rintro e w8 ⟨⟨t,rfl,htl,nX⟩,fO⟩;have PT:=Q0 (HPQ.out t nX);have M8:=Q0 (hmid.out.below fO);clear nX HPQ fO m0 m1 m2 n0 n1 n2;obtain ⟨⟨m0,m1,m2⟩,n0,n1,n2⟩:=M8.out.cells;have MZ:Hid (Mid X w2 (w8.setCell ⟨X,1,none⟩ (.string (K3 t))) o (K3 t) 0):=M8.out.set1 _;have sO:=(MZ.out.but.block _ O0 O0).trans HT2.out;have xS:=Q0 sO;have tc:(w8.setCell ⟨X,1,none⟩ (.string (K3 t))).cell? ⟨w.heap.size+1,0,none⟩=some v:=by rw [Lib.cell_of_heap sO];rfl
   have tf:=Lib.frozen_of_heap sO 0;have UL:=Li hown2 MZ.out.but vU.out;have lX:=Q0 (La HL2.out MZ.out.but O0);have BP:=TL.trans (MZ.out.but.below O0 O0);have hzz:w2.heap.size<=w8.heap.size:=by have:=MZ.out.but.size;simpa using this
   obtain ⟨⟨r0,r1,r2⟩,_,_,_⟩:=MZ.out.cells;have HP:=Q0 (Cb hso.out (by rw [TQ.out];exact hlt) (by rw [TQ.out,lM.out];exact PT.out));have mX:Hid (∀ j,((is++[(⟨o,(K3 t),0⟩:I3)]).getD j K9).tx.size<=1048700):=Nb htx.out (by show ByteArray.size _<=1048700;rw [Y2];omega);clear sO
   go_wp2_with (at_builtin;refine wpList_append_own _ rfl _ _ 107 rfl w1.heap.size 121 i0 (.agg #[.int .i64 0,.string ⟨#[]⟩,.int .i64 0]) 3 32 underlying107 hi hz0 hz1 hz2 rfl J3 _ _ _ rfl (UL.alloc _) ⟨w8.heap.size,0,none⟩ 1 1 [_,_,_] rfl rfl (Ff U0 _ _ _ _) (by intro u hu;simp at hu;rcases hu with rfl | rfl | rfl <;> rfl) (by unfold maxLen;omega) O0 X3 ?_;intro v' w6 hown6 hgrow _;have QL:Hid (w6.heap[w.heap.size+1]?=some (.cells #[v] 109 (0,0))):=Eb (v:=v) (by rw [Below.heap_alloc _ _ _ (F4 xS.out)];exact xS.out) (fun e=>by have:=(UL.lt _ e).1;omega) hgrow;have VO:Hid (P6 w6 g Ls):=Od (Dc lX.out bA) hgrow (fun e=>by have:=(UL.lt _ e.symm).1;omega);have HG:Hid (Below (w.heap.size+1) (w.alloc (.cells #[.slice none 0 0] 109)) w6):=(BP.alloc (by first | omega | (simp;omega)) _).grown hgrow X3 (fun k hk=>by have:=(UL.lt k hk).1;omega);have FO:w8.heap.size+1<=w6.heap.size:=(by have:=hgrow.size;simp at this;omega);obtain ⟨ao,BM,rfl⟩:=E8 hown6;have d1:w6.cell? ⟨w.heap.size+1,0,none⟩=some v:=(by rw [Lib.cell_of_heap QL.out];rfl);have f1:w6.frozen? ⟨w.heap.size+1,0,none⟩=false:=Lib.frozen_of_heap QL.out 0;clear hgrow)
   go_roundw
   case rel=>
    refine ⟨is.length+1,is++[(⟨o,(K3 t),0⟩:I3)],.slice ao (is.length+1) BM,O0,by go_num,U0,HP,mX,?_,?_,La VO.out ((But.refl (w.heap.size+1) w6).setCell 0 _) O0,HG.out.setCell U0 _,X3⟩
    · exact heap_setCell_same w6 (w.heap.size+1) 0 _ _ _ QL.out
    rw [m_,List.length_append];exact ownsRow_setCell_below hown6 (by show w.heap.size+1<w1.heap.size;omega) _
   case measure=>simp [intOf];omega
 · have PT:=Q0 (Iy HO.out hO hX)
   clear hO hX
   go_wp2_with fail
   refine (wB (Z0 ln) _ O0).mono ?_;rintro e w7 ⟨⟨gn,cpn,rfl,hgn,hns⟩,MN⟩;have nsc:w7.cell? ⟨gn,0,none⟩=some (.string (K3 (U1 (Z0 ln)))):=hns.2 0 U0;have hr3:=I9 (Z0 ln);have M7:=Q0 (hmid.out.below MN);clear hns hgn MN m0 m1 m2 n0 n1 n2
   go_wp2_with fail
   refine (FE (U1 (Z0 ln)) _ O0).mono ?_;rintro e w8 ⟨rfl,fO⟩;have M8:=Q0 (M7.out.below fO);clear fO nsc M7;obtain ⟨⟨m0,m1,m2⟩,n0,n1,n2⟩:=M8.out.cells;have MZ:Hid (Mid X w2 (w8.setCell ⟨X,2,none⟩ (.int .i64 (n29 (U1 (Z0 ln))))) o ⟨#[]⟩ (n29 (U1 (Z0 ln)))):=M8.out.set2 _;have sO:=(MZ.out.but.block _ O0 O0).trans HT2.out;have xS:=Q0 sO;have tc:(w8.setCell ⟨X,2,none⟩ (.int .i64 (n29 (U1 (Z0 ln))))).cell? ⟨w.heap.size+1,0,none⟩=some v:=by rw [Lib.cell_of_heap sO];rfl
   have tf:=Lib.frozen_of_heap sO 0;have UL:=Li hown2 MZ.out.but vU.out;have lX:=Q0 (La HL2.out MZ.out.but O0);have BP:=TL.trans (MZ.out.but.below O0 O0);have hzz:w2.heap.size<=w8.heap.size:=by have:=MZ.out.but.size;simpa using this
   obtain ⟨⟨r0,r1,r2⟩,_,_,_⟩:=MZ.out.cells;have HP:=Q0 (Cb hso.out (by rw [TQ.out];exact hlt) (by rw [TQ.out,lM.out];exact PT.out));have mX:Hid (∀ j,((is++[(⟨o,⟨#[]⟩,(n29 (U1 (Z0 ln)))⟩:I3)]).getD j K9).tx.size<=1048700):=Nb htx.out (by show ByteArray.size _<=1048700;exact Nat.zero_le _);clear sO
   go_wp2_with (at_builtin;refine wpList_append_own _ rfl _ _ 107 rfl w1.heap.size 121 i0 (.agg #[.int .i64 0,.string ⟨#[]⟩,.int .i64 0]) 3 32 underlying107 hi hz0 hz1 hz2 rfl J3 _ _ _ rfl (UL.alloc _) ⟨w8.heap.size,0,none⟩ 1 1 [_,_,_] rfl rfl (Ff U0 _ _ _ _) (by intro u hu;simp at hu;rcases hu with rfl | rfl | rfl <;> rfl) (by unfold maxLen;omega) O0 X3 ?_;intro v' w6 hown6 hgrow _;have QL:Hid (w6.heap[w.heap.size+1]?=some (.cells #[v] 109 (0,0))):=Eb (v:=v) (by rw [Below.heap_alloc _ _ _ (F4 xS.out)];exact xS.out) (fun e=>by have:=(UL.lt _ e).1;omega) hgrow;have VO:Hid (P6 w6 g Ls):=Od (Dc lX.out bA) hgrow (fun e=>by have:=(UL.lt _ e.symm).1;omega);have HG:Hid (Below (w.heap.size+1) (w.alloc (.cells #[.slice none 0 0] 109)) w6):=(BP.alloc (by first | omega | (simp;omega)) _).grown hgrow X3 (fun k hk=>by have:=(UL.lt k hk).1;omega);have FO:w8.heap.size+1<=w6.heap.size:=(by have:=hgrow.size;simp at this;omega);obtain ⟨ao,BM,rfl⟩:=E8 hown6;have d1:w6.cell? ⟨w.heap.size+1,0,none⟩=some v:=(by rw [Lib.cell_of_heap QL.out];rfl);have f1:w6.frozen? ⟨w.heap.size+1,0,none⟩=false:=Lib.frozen_of_heap QL.out 0;clear hgrow)
   go_roundw
   case rel=>
    refine ⟨is.length+1,is++[(⟨o,⟨#[]⟩,(n29 (U1 (Z0 ln)))⟩:I3)],.slice ao (is.length+1) BM,O0,by go_num,U0,HP,mX,?_,?_,La VO.out ((But.refl (w.heap.size+1) w6).setCell 0 _) O0,HG.out.setCell U0 _,X3⟩
    · exact heap_setCell_same w6 (w.heap.size+1) 0 _ _ _ QL.out
    rw [m_,List.length_append];exact ownsRow_setCell_below hown6 (by show w.heap.size+1<w1.heap.size;omega) _
   case measure=>simp [intOf];omega
 have HPQ:Hid (∀ t,(∀ q,Z0 (Z0 ln)=J4 q->t=q)->Wd ln ⟨o,K3 t,n29 (U1 (Z0 ln))⟩):=fun t ht=>Jw HO.out hO hX ht;clear hO hX
 go_wp2_with fail
 refine (wB (Z0 ln) _ O0).mono ?_;rintro e w7 ⟨⟨gn,cpn,rfl,hgn,hns⟩,MN⟩;have nsc:w7.cell? ⟨gn,0,none⟩=some (.string (K3 (U1 (Z0 ln)))):=hns.2 0 U0;have hr3:=I9 (Z0 ln);have M7:=Q0 (hmid.out.below MN);clear hns hgn MN m0 m1 m2 n0 n1 n2
 go_wp2_with fail
 refine (FE (U1 (Z0 ln)) _ O0).mono ?_;rintro e w8 ⟨rfl,fO⟩;have M8:=Q0 (M7.out.below fO);clear fO nsc M7;obtain ⟨⟨m0,m1,m2⟩,n0,n1,n2⟩:=M8.out.cells;have M9:Hid (Mid X w2 (w8.setCell ⟨X,2,none⟩ (.int .i64 (n29 (U1 (Z0 ln))))) o ⟨#[]⟩ (n29 (U1 (Z0 ln)))):=M8.out.set2 _
 go_wp2_with fail
 refine (Yu (Z0 (Z0 ln)) _ O0).mono ?_;rintro e w9 ⟨⟨t,rfl,htl,nX⟩,hb9⟩;have PT:=Q0 (HPQ.out t nX);have M10:=Q0 (M9.out.below hb9);clear nX HPQ hb9 m0 m1 m2 n0 n1 n2 M8 M9;generalize n29 (U1 (Z0 ln))=N at*;obtain ⟨⟨m0,m1,m2⟩,n0,n1,n2⟩:=M10.out.cells;have MZ:Hid (Mid X w2 (w9.setCell ⟨X,1,none⟩ (.string (K3 t))) o (K3 t) N):=M10.out.set1 _;have sO:=(MZ.out.but.block _ O0 O0).trans HT2.out;have xS:=Q0 sO;have tc:(w9.setCell ⟨X,1,none⟩ (.string (K3 t))).cell? ⟨w.heap.size+1,0,none⟩=some v:=by rw [Lib.cell_of_heap sO];rfl
 have tf:=Lib.frozen_of_heap sO 0;have UL:=Li hown2 MZ.out.but vU.out;have lX:=Q0 (La HL2.out MZ.out.but O0);have BP:=TL.trans (MZ.out.but.below O0 O0);have hzz:w2.heap.size<=w9.heap.size:=by have:=MZ.out.but.size;simpa using this
 obtain ⟨⟨r0,r1,r2⟩,_,_,_⟩:=MZ.out.cells;have HP:=Q0 (Cb hso.out (by rw [TQ.out];exact hlt) (by rw [TQ.out,lM.out];exact PT.out));have mX:Hid (∀ j,((is++[(⟨o,(K3 t),N⟩:I3)]).getD j K9).tx.size<=1048700):=Nb htx.out (by show ByteArray.size _<=1048700;rw [Y2];omega);clear sO
 go_wp2_with (at_builtin;refine wpList_append_own _ rfl _ _ 107 rfl w1.heap.size 121 i0 (.agg #[.int .i64 0,.string ⟨#[]⟩,.int .i64 0]) 3 32 underlying107 hi hz0 hz1 hz2 rfl J3 _ _ _ rfl (UL.alloc _) ⟨w9.heap.size,0,none⟩ 1 1 [_,_,_] rfl rfl (Ff U0 _ _ _ _) (by intro u hu;simp at hu;rcases hu with rfl | rfl | rfl <;> rfl) (by unfold maxLen;omega) O0 X3 ?_;intro v' w6 hown6 hgrow _;have QL:Hid (w6.heap[w.heap.size+1]?=some (.cells #[v] 109 (0,0))):=Eb (v:=v) (by rw [Below.heap_alloc _ _ _ (F4 xS.out)];exact xS.out) (fun e=>by have:=(UL.lt _ e).1;omega) hgrow;have VO:Hid (P6 w6 g Ls):=Od (Dc lX.out bA) hgrow (fun e=>by have:=(UL.lt _ e.symm).1;omega);have HG:Hid (Below (w.heap.size+1) (w.alloc (.cells #[.slice none 0 0] 109)) w6):=(BP.alloc (by first | omega | (simp;omega)) _).grown hgrow X3 (fun k hk=>by have:=(UL.lt k hk).1;omega);have FO:w9.heap.size+1<=w6.heap.size:=(by have:=hgrow.size;simp at this;omega);obtain ⟨ao,BM,rfl⟩:=E8 hown6;have d1:w6.cell? ⟨w.heap.size+1,0,none⟩=some v:=(by rw [Lib.cell_of_heap QL.out];rfl);have f1:w6.frozen? ⟨w.heap.size+1,0,none⟩=false:=Lib.frozen_of_heap QL.out 0;clear hgrow)
 go_roundw
 case rel=>
  refine ⟨is.length+1,is++[(⟨o,(K3 t),N⟩:I3)],.slice ao (is.length+1) BM,O0,by go_num,U0,HP,mX,?_,?_,La VO.out ((But.refl (w.heap.size+1) w6).setCell 0 _) O0,HG.out.setCell U0 _,X3⟩
  · exact heap_setCell_same w6 (w.heap.size+1) 0 _ _ _ QL.out
  rw [m_,List.length_append];exact ownsRow_setCell_below hown6 (by show w.heap.size+1<w1.heap.size;omega) _
 case measure=>simp [intOf];omega
end Go.Proofs.YtdpoaadafcaffaaGreatDoor
