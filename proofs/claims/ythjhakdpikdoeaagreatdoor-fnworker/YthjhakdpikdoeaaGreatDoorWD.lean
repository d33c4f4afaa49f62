import Derived.Test.YthjhakdpikdoeaaGreatDoorWC
set_option maxHeartbeats 8000000
set_option maxRecDepth 100000
set_option linter.unusedVariables false
namespace Go.Proofs.YthjhakdpikdoeaaGreatDoor
open Proofs.Tryz
open Go.RowKit
def Is12o (w:World) (l:List UInt8) (e:Ending) (w':World):Prop:=∃ (is:List I3) (ok:Bool) (a:Option Addr) (cap:Nat),e=.returned (.tuple #[.agg #[.slice a is.length cap],.bool ok])/\w'.ownsRow w.heap.size 92 3 (.slice a is.length cap) is.length (insCells is)/\IsRead l is ok
theorem c58o (s:ByteArray) (w:World) (hs:s.size<=1048576):
 Calls prog 58 #[.string s] w fun e w'=>Is12o w s.data.toList e w'/\Below w.heap.size w w':=by
 have hlen:s.data.toList.length=s.size:=sm_;obtain ⟨i0,hi,hz0,hz1,hz2⟩:=info_parts info92;have hBR:Below w.heap.size w (w.alloc (.cells #[.slice none 0 0] 87)):=bA;by_cases h300:300<s.size
 · have HR:Hid (IsRead s.data.toList [] false):=read_long om_
   go_enter func58,ntmps58;go_wp2;refine bodyPost_ret (v:=.tuple #[.agg #[.slice none 0 0],.bool false]) (by simp [results,Tryz.results58,go_sem]) rfl ⟨⟨[],false,none,0,rfl,World.ownsRow_nil _ _ _ _,HR.out⟩,hBR⟩
 go_enter func58,ntmps58
 go_wp2_with fail
 refine (c87 s 10 _ om_).mono ?_;rintro e w1 ⟨⟨g,cp,rfl,hg,hln⟩,hb1⟩;have hx1:Below (w.heap.size+1) (w.alloc (.cells #[.slice none 0 0] 87)) w1:=((Below.refl _ _).alloc sm_ _).trans (hb1.mono sm_);have hT1:w1.heap[w.heap.size+1]?=some (.cells #[.slice none 0 0] 87 (0,0)):=(hb1.block _ sm_).trans (alloc_new sm_ _);have HT1:Hid (w1.heap[w.heap.size+1]?=some (.cells #[.slice none 0 0] 87 (0,0))):=hT1;have hg2:w.heap.size+2<=g:=by simpa using hg
 have HLN:Hid (LinesAt w1 g (cutS 10 s.data.toList)):=hln;have hz1':w.heap.size+2<=w1.heap.size:=by have:=hb1.size;simpa using this
 obtain ⟨hn1,hn2⟩:=cut_len 10 s.data.toList;have hcs:=cut_small 10 s.data.toList;have HCS:Hid (∀ k,((cutS 10 s.data.toList).getD k []).length<=s.data.toList.length):=hcs;have hgl:g<w1.heap.size:=hln.1;clear hT1 hb1 hln hg hcs
 go_wp2_with fail
 generalize hLs:cutS 10 s.data.toList=Ls at*;have HLs:Hid (cutS 10 s.data.toList=Ls):=hLs;clear hLs;go_loopw [6] (fun i wr=>∃ (k:Nat) (is:List I3) (v:Value),k+1<=Ls.length/\i=.int .i64 k/\is.length=k/\Hid (Sofar s.data.toList is k)/\Hid (∀ j,(is.getD j i3z).tx.size<=1048700)/\Hid (wr.heap[w.heap.size+1]?=some (.cells #[v] 87 (0,0)))/\wr.ownsRow w1.heap.size 92 3 v is.length (insCells is)/\Hid (LinesAt wr g Ls)/\Below (w.heap.size+1) (w.alloc (.cells #[.slice none 0 0] 87)) wr/\w1.heap.size<=wr.heap.size) (fun i _=>Ls.length - (intOf i).toNat)
 case atStart=>exact ⟨0,[],.slice none 0 0,om_,rfl,rfl,sofar_start _,(fun j=>by simp [i3z,ByteArray.size]),HT1,World.ownsRow_nil _ _ _ _,HLN,hx1,Nat.le_refl _⟩
 obtain ⟨k,is,v,hk,rfl,hisl,hso,htx,hT,hown,hlnr,hbx,hzr⟩:=hrel;subst hisl;have hb:Below w.heap.size w wr:=hBR.trans (hbx.mono om_);by_cases hlt:is.length+1<Ls.length;rotate_left
 · obtain ⟨HE1,HE2⟩:=sofar_end hso.out (by rw [HLs.out];omega) om_
   have H1:Hid (s.data.toList≠[]/\formL is=s.data.toList->IsRead s.data.toList is true):=HE1;have H2:Hid (¬ (s.data.toList≠[]/\formL is=s.data.toList)->IsRead s.data.toList [] false):=HE2;clear HE1 HE2;have hRr:wr.cell? ⟨w.heap.size,0,none⟩=some (.slice none 0 0):=(hbx.cell (p:=⟨w.heap.size,0,none⟩) sm_).trans (by simp [go_sem]);have hRf:wr.frozen? ⟨w.heap.size,0,none⟩=false:=(hbx.frozen (p:=⟨w.heap.size,0,none⟩) sm_).trans (by simp [go_sem]);obtain ⟨ao,cpo,hv,hat⟩:=own3_form hown;subst hv;have HAT:Hid (InsAt wr ao is):=hat;have hTc:wr.cell? ⟨w.heap.size+1,0,none⟩=some (.slice ao is.length cpo):=by rw [Lib.cell_of_heap hT.out];rfl
   have hTs:s.toList=s.data.toList:=ByteArray.toList_eq s;clear hat hso hT;by_cases he:s.data.toList=[]
   · have HR:Hid (IsRead s.data.toList [] false):=H2.out (fun h=>h.1 he)
     have e0:s.toList=[]:=by rw [hTs];exact he
     clear he H1 H2 hTs;go_wp2;refine bodyPost_ret (v:=.tuple #[.agg #[.slice none 0 0],.bool false]) (by simp [results,Tryz.results58,go_sem,World.cell?_setCell_same _ _ _ hRr]) rfl ⟨⟨[],false,none,0,rfl,World.ownsRow_nil _ _ _ _,HR.out⟩,hb.setCell sm_ _⟩
   have e0:s.toList.isEmpty=false:=by
    rw [hTs]
    cases hq:s.data.toList with
    | nil=>exact absurd hq he
    | cons a r=>rfl
   have e1:¬ s.toList=[]:=by rw [hTs];exact he
   have HTS:Hid (s.toList=s.data.toList):=hTs;clear hTs
   go_wp2_with fail
   refine (c43 ao cpo is wr htx.out om_ HAT.out).mono ?_;rintro e w5 ⟨rfl,hb5⟩;have hB5:Below w.heap.size w w5:=bT hb hb5;have hRr5:w5.cell? ⟨w.heap.size,0,none⟩=some (.slice none 0 0):=(hb5.cell (p:=⟨w.heap.size,0,none⟩) so_).trans hRr;have hRf5:w5.frozen? ⟨w.heap.size,0,none⟩=false:=(hb5.frozen (p:=⟨w.heap.size,0,none⟩) so_).trans hRf;have hTc5:w5.cell? ⟨w.heap.size+1,0,none⟩=some (.slice ao is.length cpo):=(hb5.cell (p:=⟨w.heap.size+1,0,none⟩) so_).trans hTc;have hown5:w5.ownsRow w1.heap.size 92 3 (.slice ao is.length cpo) is.length (insCells is):=ownsRow_below hown hb5;have hown6:Hid ((w5.setCell ⟨w.heap.size,0,none⟩ (.slice ao is.length cpo)).ownsRow w.heap.size 92 3 (.slice ao is.length cpo) is.length (insCells is)):=owns_mono (ownsRow_setCell_below hown5 (a:=⟨w.heap.size,0,none⟩) (by show w.heap.size<w1.heap.size;omega) (.slice ao is.length cpo)) om_;clear hRr hRf hTc hb5 hown hown5 HAT;by_cases hf:formL is=s.data.toList
   · have HR:Hid (IsRead s.data.toList is true):=H1.out ⟨he,hf⟩
     have e2:((ofL (formL is)).toList==s.toList)=true:=by rw [hf,HTS.out,ByteArray.toList_eq];simp [ofL]
     clear hf he H1 H2;go_wp2;refine bodyPost_ret (v:=.tuple #[.agg #[.slice ao is.length cpo],.bool true]) (by simp [results,Tryz.results58,go_sem,World.cell?_setCell_same _ _ _ hRr5]) rfl ⟨⟨is,true,ao,cpo,rfl,hown6.out,HR.out⟩,hB5.setCell sm_ _⟩
   have HR:Hid (IsRead s.data.toList [] false):=H2.out (fun h=>hf h.2);have e2:((ofL (formL is)).toList==s.toList)=false:=by rw [HTS.out,ByteArray.toList_eq];simpa [ofL] using hf
   clear hf he H1 H2;go_wp2;refine bodyPost_ret (v:=.tuple #[.agg #[.slice none 0 0],.bool false]) (by simp [results,Tryz.results58,go_sem,World.cell?_setCell_same _ _ _ hRr5]) rfl ⟨⟨[],false,none,0,rfl,World.ownsRow_nil _ _ _ _,HR.out⟩,hB5.setCell sm_ _⟩
 have hgw:g<wr.heap.size:=hlnr.out.1;have l0:=past (by exact hgw) (hlnr.out.2 is.length om_);have hll:(Ls.getD is.length []).length<=300:=by have:=HCS.out is.length;omega
 generalize hln0:Ls.getD is.length []=ln at*;have HL0:Hid (Ls.getD is.length []=ln):=hln0;clear hln0;obtain ⟨hr1,hr2⟩:=rest_small ln
 go_wp2_with fail
 refine (c88' ln _ om_).mono ?_;rintro e w2 ⟨⟨gw,cpw,rfl,hgw2,hws⟩,hb2⟩;have hb2':Below (wr.heap.size+1) (wr.alloc (.cells #[.int .i64 0,.string ⟨#[]⟩,.int .i64 0] 92)) w2:=by have h:=hb2;simp at h;exact h
 have hbr2:Below wr.heap.size wr w2:=bA.trans (hb2'.mono om_);have hz2':wr.heap.size+1<=w2.heap.size:=by have:=hb2'.size;simpa using this
 have M0:Hid (Mid wr.heap.size w2 w2 0 ⟨#[]⟩ 0):=⟨But.refl _ _,(hb2'.block _ om_).trans (alloc_new rfl _)⟩;have hgw3:wr.heap.size+1<=gw:=by simpa using hgw2
 have hwc:w2.cell? ⟨gw,0,none⟩=some (.string (ofL (wordOf ln))):=hws.2 0 sm_;have hwl:gw<w2.heap.size:=hws.1;have HT2:Hid (w2.heap[w.heap.size+1]?=some (.cells #[v] 87 (0,0))):=(hbr2.block _ om_).trans hT.out;have hown2:w2.ownsRow w1.heap.size 92 3 v is.length (insCells is):=ownsRow_below hown hbr2;have hneX:Hid (v.ownBlock≠some wr.heap.size):=fun e=>by have:=(hown.lt _ e).2;omega
 have HL2:Hid (LinesAt w2 g Ls):=lines_below hlnr.out hbr2;have hbx2:Below (w.heap.size+1) (w.alloc (.cells #[.slice none 0 0] 87)) w2:=hbx.trans (hbr2.mono om_);clear hb2 hb2' hws hgw2 l0 hT hown hlnr hbx hb hbr2
 go_wp2_with fail
 generalize hX:wr.heap.size=X at*;clear hX;go_loopw [10] (fun p wq=>∃ (q:Nat) (o:Int),1<=q/\q<=12/\p=.int .i64 q/\Hid (Mid X w2 wq o ⟨#[]⟩ 0)/\Hid (OpTo ln q o)) (fun p _=>12 - (intOf p).toNat)
 case atStart=>exact ⟨1,0,om_,om_,rfl,M0,.inl ⟨rfl,fun p h1 h2=>om_⟩⟩
 obtain ⟨q,o,hq1,hq2,rfl,hmid,hopt⟩:=hrel;have hwcq:wr.cell? ⟨gw,0,none⟩=some (.string (ofL (wordOf ln))):=(hmid.out.but.cell (p:=⟨gw,0,none⟩) hwl (by show gw≠X;omega)).trans hwc;have hwlq:gw<wr.heap.size:=Nat.lt_of_lt_of_le hwl hmid.out.but.size;by_cases hq:q<=11
 · by_cases hw:word q=wordOf ln
   · have e1:((wordA q).toList==(ofL (wordOf ln)).toList)=true:=by rw [wordA_ofL,hw];simp
     have HO:Hid (OpTo ln (q+1) q):=opTo_yes hopt.out hq1 hw;clear hw
     go_wp2_with fail
     go_region_with (go_at_call 79;refine (c79 _ _).mono ?_;rintro e wz ⟨rfl,hbz⟩;have hwz:wz.cell? ⟨gw,0,none⟩=some (.string (ofL (wordOf ln))):=(hbz.cell (p:=⟨gw,0,none⟩) hwlq).trans hwcq;have MZ:Hid (Mid X w2 wz o ⟨#[]⟩ 0):=hmid.out.below (Below.trans ((Below.refl _ _).drew) hbz);have c0:=MZ.out.cells.1.1;have f0:=MZ.out.cells.2.1)
     all_goals go_wp2
     all_goals go_roundw
     all_goals first
      | exact ⟨q+1,q,om_,om_,by go_num,MZ.out.set0 _,HO⟩
      | (simp [intOf];omega)
   have e1:((wordA q).toList==(ofL (wordOf ln)).toList)=false:=by
    rw [wordA_ofL,ByteArray.toList_eq,ByteArray.toList_eq];simpa [ofL] using hw
   have HO:Hid (OpTo ln (q+1) o):=opTo_no hopt.out hw;clear hw
   go_wp2_with fail
   go_region_with (go_at_call 79;refine (c79 _ _).mono ?_;rintro e wz ⟨rfl,hbz⟩;have hwz:wz.cell? ⟨gw,0,none⟩=some (.string (ofL (wordOf ln))):=(hbz.cell (p:=⟨gw,0,none⟩) hwlq).trans hwcq;have MZ:Hid (Mid X w2 wz o ⟨#[]⟩ 0):=hmid.out.below (Below.trans ((Below.refl _ _).drew) hbz))
   all_goals go_wp2
   all_goals go_roundw
   all_goals first
    | exact ⟨q+1,o,om_,om_,by go_num,MZ,HO⟩
    | (simp [intOf];omega)
 obtain rfl:q=12:=om_;have HO:Hid (OpOf ln o):=opTo_end hopt.out;clear hwcq;obtain ⟨⟨m0,m1,m2⟩,n0,n1,n2⟩:=hmid.out.cells
 go_wp2_with fail
 refine (c78 o _).mono ?_;rintro e w5 ⟨rfl,hw5⟩;obtain rfl:=hw5.symm;cases hO:usesTo o <;> cases hX:usesTx o
 · have MZ:=hmid
   have HPP:Hid (Parsed ln ⟨o,⟨#[]⟩,0⟩):=parsed_00 HO.out hO hX;clear hO hX;have hTz:(wr).heap[w.heap.size+1]?=some (.cells #[v] 87 (0,0)):=(MZ.out.but.block _ om_ om_).trans HT2.out;have HTz:Hid ((wr).heap[w.heap.size+1]?=some (.cells #[v] 87 (0,0))):=hTz;have tc:(wr).cell? ⟨w.heap.size+1,0,none⟩=some v:=by rw [Lib.cell_of_heap hTz];rfl
   have tf:(wr).frozen? ⟨w.heap.size+1,0,none⟩=false:=Lib.frozen_of_heap hTz 0;have hownz:(wr).ownsRow w1.heap.size 92 3 v is.length (insCells is):=owns_but hown2 MZ.out.but hneX.out;have HLz:Hid (LinesAt (wr) g Ls):=lines_but HL2.out MZ.out.but om_;have hbz':Below (w.heap.size+1) (w.alloc (.cells #[.slice none 0 0] 87)) (wr):=hbx2.trans (MZ.out.but.below om_ om_);have hzz:w2.heap.size<=wr.heap.size:=by have:=MZ.out.but.size;simpa using this
   obtain ⟨⟨r0,r1,r2⟩,_,_,_⟩:=MZ.out.cells;have HP:Hid (Sofar s.data.toList (is++[(⟨o,⟨#[]⟩,0⟩:I3)]) (is.length+1)):=sofar_step hso.out (by rw [HLs.out];exact hlt) (by rw [HLs.out,HL0.out];exact HPP.out);have HSm:Hid (∀ j,((is++[(⟨o,⟨#[]⟩,0⟩:I3)]).getD j i3z).tx.size<=1048700):=small_snoc htx.out (by show ByteArray.size _<=1048700;exact Nat.zero_le _);clear hTz
   go_wp2_with (at_builtin;refine wpList_append_own _ rfl _ _ 85 rfl w1.heap.size 92 i0 (.agg #[.int .i64 0,.string ⟨#[]⟩,.int .i64 0]) 3 32 underlying85 hi hz0 hz1 hz2 rfl dc_ _ _ _ rfl (hownz.alloc _) ⟨wr.heap.size,0,none⟩ 1 1 [_,_,_] rfl rfl (row3g sm_ _ _ _ _) (by intro u hu;simp at hu;rcases hu with rfl | rfl | rfl <;> rfl) (by unfold maxLen;omega) om_ so_ ?_;intro v' w6 hown6 hgrow _;have HB6:Hid (w6.heap[w.heap.size+1]?=some (.cells #[v] 87 (0,0))):=app_keeps (v:=v) (by rw [Below.heap_alloc _ _ _ (blk_lt HTz.out)];exact HTz.out) (fun e=>by have:=(hownz.lt _ e).1;omega) hgrow;have HL6:Hid (LinesAt w6 g Ls):=lines_grown (lines_below HLz.out bA) hgrow (fun e=>by have:=(hownz.lt _ e.symm).1;omega);have HG:Hid (Below (w.heap.size+1) (w.alloc (.cells #[.slice none 0 0] 87)) w6):=(hbz'.alloc (by first | omega | (simp;omega)) _).grown hgrow so_ (fun k hk=>by have:=(hownz.lt k hk).1;omega);have hz6:wr.heap.size+1<=w6.heap.size:=(by have:=hgrow.size;simp at this;omega);obtain ⟨ao,cpo,rfl⟩:=row_form3 hown6;have d1:w6.cell? ⟨w.heap.size+1,0,none⟩=some v:=(by rw [Lib.cell_of_heap HB6.out];rfl);have f1:w6.frozen? ⟨w.heap.size+1,0,none⟩=false:=Lib.frozen_of_heap HB6.out 0;clear hgrow)
   go_roundw
   case rel=>
    refine ⟨is.length+1,is++[(⟨o,⟨#[]⟩,0⟩:I3)],.slice ao (is.length+1) cpo,om_,by go_num,sm_,HP,HSm,?_,?_,lines_but HL6.out ((But.refl (w.heap.size+1) w6).setCell 0 _) om_,HG.out.setCell sm_ _,so_⟩
    · exact heap_setCell_same w6 (w.heap.size+1) 0 _ _ _ HB6.out
    rw [insCells_snoc,List.length_append];exact ownsRow_setCell_below hown6 (by show w.heap.size+1<w1.heap.size;omega) _
   case measure=>simp [intOf];omega
 · have HPQ:Hid (∀ t,(∀ q,restOf ln=quoteL q->t=q)->Parsed ln ⟨o,ofL t,0⟩):=fun t ht=>parsed_01 HO.out hO hX ht
   clear hO hX
   go_wp2_with fail
   refine (c90' (restOf ln) _ om_).mono ?_;rintro e w8 ⟨⟨t,rfl,htl,htq⟩,hb8⟩;have HPP:Hid (Parsed ln ⟨o,ofL t,0⟩):=HPQ.out t htq;have M8:Hid (Mid X w2 w8 o ⟨#[]⟩ 0):=hmid.out.below hb8;clear htq HPQ hb8 m0 m1 m2 n0 n1 n2;obtain ⟨⟨m0,m1,m2⟩,n0,n1,n2⟩:=M8.out.cells;have MZ:Hid (Mid X w2 (w8.setCell ⟨X,1,none⟩ (.string (ofL t))) o (ofL t) 0):=M8.out.set1 _;have hTz:(w8.setCell ⟨X,1,none⟩ (.string (ofL t))).heap[w.heap.size+1]?=some (.cells #[v] 87 (0,0)):=(MZ.out.but.block _ om_ om_).trans HT2.out;have HTz:Hid ((w8.setCell ⟨X,1,none⟩ (.string (ofL t))).heap[w.heap.size+1]?=some (.cells #[v] 87 (0,0))):=hTz;have tc:(w8.setCell ⟨X,1,none⟩ (.string (ofL t))).cell? ⟨w.heap.size+1,0,none⟩=some v:=by rw [Lib.cell_of_heap hTz];rfl
   have tf:(w8.setCell ⟨X,1,none⟩ (.string (ofL t))).frozen? ⟨w.heap.size+1,0,none⟩=false:=Lib.frozen_of_heap hTz 0;have hownz:(w8.setCell ⟨X,1,none⟩ (.string (ofL t))).ownsRow w1.heap.size 92 3 v is.length (insCells is):=owns_but hown2 MZ.out.but hneX.out;have HLz:Hid (LinesAt (w8.setCell ⟨X,1,none⟩ (.string (ofL t))) g Ls):=lines_but HL2.out MZ.out.but om_;have hbz':Below (w.heap.size+1) (w.alloc (.cells #[.slice none 0 0] 87)) (w8.setCell ⟨X,1,none⟩ (.string (ofL t))):=hbx2.trans (MZ.out.but.below om_ om_);have hzz:w2.heap.size<=w8.heap.size:=by have:=MZ.out.but.size;simpa using this
   obtain ⟨⟨r0,r1,r2⟩,_,_,_⟩:=MZ.out.cells;have HP:Hid (Sofar s.data.toList (is++[(⟨o,(ofL t),0⟩:I3)]) (is.length+1)):=sofar_step hso.out (by rw [HLs.out];exact hlt) (by rw [HLs.out,HL0.out];exact HPP.out);have HSm:Hid (∀ j,((is++[(⟨o,(ofL t),0⟩:I3)]).getD j i3z).tx.size<=1048700):=small_snoc htx.out (by show ByteArray.size _<=1048700;rw [ofL_size];omega);clear hTz
   go_wp2_with (at_builtin;refine wpList_append_own _ rfl _ _ 85 rfl w1.heap.size 92 i0 (.agg #[.int .i64 0,.string ⟨#[]⟩,.int .i64 0]) 3 32 underlying85 hi hz0 hz1 hz2 rfl dc_ _ _ _ rfl (hownz.alloc _) ⟨w8.heap.size,0,none⟩ 1 1 [_,_,_] rfl rfl (row3g sm_ _ _ _ _) (by intro u hu;simp at hu;rcases hu with rfl | rfl | rfl <;> rfl) (by unfold maxLen;omega) om_ so_ ?_;intro v' w6 hown6 hgrow _;have HB6:Hid (w6.heap[w.heap.size+1]?=some (.cells #[v] 87 (0,0))):=app_keeps (v:=v) (by rw [Below.heap_alloc _ _ _ (blk_lt HTz.out)];exact HTz.out) (fun e=>by have:=(hownz.lt _ e).1;omega) hgrow;have HL6:Hid (LinesAt w6 g Ls):=lines_grown (lines_below HLz.out bA) hgrow (fun e=>by have:=(hownz.lt _ e.symm).1;omega);have HG:Hid (Below (w.heap.size+1) (w.alloc (.cells #[.slice none 0 0] 87)) w6):=(hbz'.alloc (by first | omega | (simp;omega)) _).grown hgrow so_ (fun k hk=>by have:=(hownz.lt k hk).1;omega);have hz6:w8.heap.size+1<=w6.heap.size:=(by have:=hgrow.size;simp at this;omega);obtain ⟨ao,cpo,rfl⟩:=row_form3 hown6;have d1:w6.cell? ⟨w.heap.size+1,0,none⟩=some v:=(by rw [Lib.cell_of_heap HB6.out];rfl);have f1:w6.frozen? ⟨w.heap.size+1,0,none⟩=false:=Lib.frozen_of_heap HB6.out 0;clear hgrow)
   go_roundw
   case rel=>
    refine ⟨is.length+1,is++[(⟨o,(ofL t),0⟩:I3)],.slice ao (is.length+1) cpo,om_,by go_num,sm_,HP,HSm,?_,?_,lines_but HL6.out ((But.refl (w.heap.size+1) w6).setCell 0 _) om_,HG.out.setCell sm_ _,so_⟩
    · exact heap_setCell_same w6 (w.heap.size+1) 0 _ _ _ HB6.out
    rw [insCells_snoc,List.length_append];exact ownsRow_setCell_below hown6 (by show w.heap.size+1<w1.heap.size;omega) _
   case measure=>simp [intOf];omega
 · have HPP:Hid (Parsed ln ⟨o,⟨#[]⟩,n29 (wordOf (restOf ln))⟩):=parsed_10 HO.out hO hX
   clear hO hX
   go_wp2_with fail
   refine (c88' (restOf ln) _ om_).mono ?_;rintro e w7 ⟨⟨gn,cpn,rfl,hgn,hns⟩,hb7⟩;have nsc:w7.cell? ⟨gn,0,none⟩=some (.string (ofL (wordOf (restOf ln)))):=hns.2 0 sm_;have hr3:=rest_small (restOf ln);have M7:Hid (Mid X w2 w7 o ⟨#[]⟩ 0):=hmid.out.below hb7;clear hns hgn hb7 m0 m1 m2 n0 n1 n2
   go_wp2_with fail
   refine (c89' (wordOf (restOf ln)) _ om_).mono ?_;rintro e w8 ⟨rfl,hb8⟩;have M8:Hid (Mid X w2 w8 o ⟨#[]⟩ 0):=M7.out.below hb8;clear hb8 nsc M7;obtain ⟨⟨m0,m1,m2⟩,n0,n1,n2⟩:=M8.out.cells;have MZ:Hid (Mid X w2 (w8.setCell ⟨X,2,none⟩ (.int .i64 (n29 (wordOf (restOf ln))))) o ⟨#[]⟩ (n29 (wordOf (restOf ln)))):=M8.out.set2 _;have hTz:(w8.setCell ⟨X,2,none⟩ (.int .i64 (n29 (wordOf (restOf ln))))).heap[w.heap.size+1]?=some (.cells #[v] 87 (0,0)):=(MZ.out.but.block _ om_ om_).trans HT2.out;have HTz:Hid ((w8.setCell ⟨X,2,none⟩ (.int .i64 (n29 (wordOf (restOf ln))))).heap[w.heap.size+1]?=some (.cells #[v] 87 (0,0))):=hTz;have tc:(w8.setCell ⟨X,2,none⟩ (.int .i64 (n29 (wordOf (restOf ln))))).cell? ⟨w.heap.size+1,0,none⟩=some v:=by rw [Lib.cell_of_heap hTz];rfl
   have tf:(w8.setCell ⟨X,2,none⟩ (.int .i64 (n29 (wordOf (restOf ln))))).frozen? ⟨w.heap.size+1,0,none⟩=false:=Lib.frozen_of_heap hTz 0;have hownz:(w8.setCell ⟨X,2,none⟩ (.int .i64 (n29 (wordOf (restOf ln))))).ownsRow w1.heap.size 92 3 v is.length (insCells is):=owns_but hown2 MZ.out.but hneX.out;have HLz:Hid (LinesAt (w8.setCell ⟨X,2,none⟩ (.int .i64 (n29 (wordOf (restOf ln))))) g Ls):=lines_but HL2.out MZ.out.but om_;have hbz':Below (w.heap.size+1) (w.alloc (.cells #[.slice none 0 0] 87)) (w8.setCell ⟨X,2,none⟩ (.int .i64 (n29 (wordOf (restOf ln))))):=hbx2.trans (MZ.out.but.below om_ om_);have hzz:w2.heap.size<=w8.heap.size:=by have:=MZ.out.but.size;simpa using this
   obtain ⟨⟨r0,r1,r2⟩,_,_,_⟩:=MZ.out.cells;have HP:Hid (Sofar s.data.toList (is++[(⟨o,⟨#[]⟩,(n29 (wordOf (restOf ln)))⟩:I3)]) (is.length+1)):=sofar_step hso.out (by rw [HLs.out];exact hlt) (by rw [HLs.out,HL0.out];exact HPP.out);have HSm:Hid (∀ j,((is++[(⟨o,⟨#[]⟩,(n29 (wordOf (restOf ln)))⟩:I3)]).getD j i3z).tx.size<=1048700):=small_snoc htx.out (by show ByteArray.size _<=1048700;exact Nat.zero_le _);clear hTz
   go_wp2_with (at_builtin;refine wpList_append_own _ rfl _ _ 85 rfl w1.heap.size 92 i0 (.agg #[.int .i64 0,.string ⟨#[]⟩,.int .i64 0]) 3 32 underlying85 hi hz0 hz1 hz2 rfl dc_ _ _ _ rfl (hownz.alloc _) ⟨w8.heap.size,0,none⟩ 1 1 [_,_,_] rfl rfl (row3g sm_ _ _ _ _) (by intro u hu;simp at hu;rcases hu with rfl | rfl | rfl <;> rfl) (by unfold maxLen;omega) om_ so_ ?_;intro v' w6 hown6 hgrow _;have HB6:Hid (w6.heap[w.heap.size+1]?=some (.cells #[v] 87 (0,0))):=app_keeps (v:=v) (by rw [Below.heap_alloc _ _ _ (blk_lt HTz.out)];exact HTz.out) (fun e=>by have:=(hownz.lt _ e).1;omega) hgrow;have HL6:Hid (LinesAt w6 g Ls):=lines_grown (lines_below HLz.out bA) hgrow (fun e=>by have:=(hownz.lt _ e.symm).1;omega);have HG:Hid (Below (w.heap.size+1) (w.alloc (.cells #[.slice none 0 0] 87)) w6):=(hbz'.alloc (by first | omega | (simp;omega)) _).grown hgrow so_ (fun k hk=>by have:=(hownz.lt k hk).1;omega);have hz6:w8.heap.size+1<=w6.heap.size:=(by have:=hgrow.size;simp at this;omega);obtain ⟨ao,cpo,rfl⟩:=row_form3 hown6;have d1:w6.cell? ⟨w.heap.size+1,0,none⟩=some v:=(by rw [Lib.cell_of_heap HB6.out];rfl);have f1:w6.frozen? ⟨w.heap.size+1,0,none⟩=false:=Lib.frozen_of_heap HB6.out 0;clear hgrow)
   go_roundw
   case rel=>
    refine ⟨is.length+1,is++[(⟨o,⟨#[]⟩,(n29 (wordOf (restOf ln)))⟩:I3)],.slice ao (is.length+1) cpo,om_,by go_num,sm_,HP,HSm,?_,?_,lines_but HL6.out ((But.refl (w.heap.size+1) w6).setCell 0 _) om_,HG.out.setCell sm_ _,so_⟩
    · exact heap_setCell_same w6 (w.heap.size+1) 0 _ _ _ HB6.out
    rw [insCells_snoc,List.length_append];exact ownsRow_setCell_below hown6 (by show w.heap.size+1<w1.heap.size;omega) _
   case measure=>simp [intOf];omega
 have HPQ:Hid (∀ t,(∀ q,restOf (restOf ln)=quoteL q->t=q)->Parsed ln ⟨o,ofL t,n29 (wordOf (restOf ln))⟩):=fun t ht=>parsed_11 HO.out hO hX ht;clear hO hX
 go_wp2_with fail
 refine (c88' (restOf ln) _ om_).mono ?_;rintro e w7 ⟨⟨gn,cpn,rfl,hgn,hns⟩,hb7⟩;have nsc:w7.cell? ⟨gn,0,none⟩=some (.string (ofL (wordOf (restOf ln)))):=hns.2 0 sm_;have hr3:=rest_small (restOf ln);have M7:Hid (Mid X w2 w7 o ⟨#[]⟩ 0):=hmid.out.below hb7;clear hns hgn hb7 m0 m1 m2 n0 n1 n2
 go_wp2_with fail
 refine (c89' (wordOf (restOf ln)) _ om_).mono ?_;rintro e w8 ⟨rfl,hb8⟩;have M8:Hid (Mid X w2 w8 o ⟨#[]⟩ 0):=M7.out.below hb8;clear hb8 nsc M7;obtain ⟨⟨m0,m1,m2⟩,n0,n1,n2⟩:=M8.out.cells;have M9:Hid (Mid X w2 (w8.setCell ⟨X,2,none⟩ (.int .i64 (n29 (wordOf (restOf ln))))) o ⟨#[]⟩ (n29 (wordOf (restOf ln)))):=M8.out.set2 _
 go_wp2_with fail
 refine (c90' (restOf (restOf ln)) _ om_).mono ?_;rintro e w9 ⟨⟨t,rfl,htl,htq⟩,hb9⟩;have HPP:Hid (Parsed ln ⟨o,ofL t,n29 (wordOf (restOf ln))⟩):=HPQ.out t htq;have M10:Hid (Mid X w2 w9 o ⟨#[]⟩ (n29 (wordOf (restOf ln)))):=M9.out.below hb9;clear htq HPQ hb9 m0 m1 m2 n0 n1 n2 M8 M9;generalize n29 (wordOf (restOf ln))=N at*;obtain ⟨⟨m0,m1,m2⟩,n0,n1,n2⟩:=M10.out.cells;have MZ:Hid (Mid X w2 (w9.setCell ⟨X,1,none⟩ (.string (ofL t))) o (ofL t) N):=M10.out.set1 _;have hTz:(w9.setCell ⟨X,1,none⟩ (.string (ofL t))).heap[w.heap.size+1]?=some (.cells #[v] 87 (0,0)):=(MZ.out.but.block _ om_ om_).trans HT2.out;have HTz:Hid ((w9.setCell ⟨X,1,none⟩ (.string (ofL t))).heap[w.heap.size+1]?=some (.cells #[v] 87 (0,0))):=hTz;have tc:(w9.setCell ⟨X,1,none⟩ (.string (ofL t))).cell? ⟨w.heap.size+1,0,none⟩=some v:=by rw [Lib.cell_of_heap hTz];rfl
 have tf:(w9.setCell ⟨X,1,none⟩ (.string (ofL t))).frozen? ⟨w.heap.size+1,0,none⟩=false:=Lib.frozen_of_heap hTz 0;have hownz:(w9.setCell ⟨X,1,none⟩ (.string (ofL t))).ownsRow w1.heap.size 92 3 v is.length (insCells is):=owns_but hown2 MZ.out.but hneX.out;have HLz:Hid (LinesAt (w9.setCell ⟨X,1,none⟩ (.string (ofL t))) g Ls):=lines_but HL2.out MZ.out.but om_;have hbz':Below (w.heap.size+1) (w.alloc (.cells #[.slice none 0 0] 87)) (w9.setCell ⟨X,1,none⟩ (.string (ofL t))):=hbx2.trans (MZ.out.but.below om_ om_);have hzz:w2.heap.size<=w9.heap.size:=by have:=MZ.out.but.size;simpa using this
 obtain ⟨⟨r0,r1,r2⟩,_,_,_⟩:=MZ.out.cells;have HP:Hid (Sofar s.data.toList (is++[(⟨o,(ofL t),N⟩:I3)]) (is.length+1)):=sofar_step hso.out (by rw [HLs.out];exact hlt) (by rw [HLs.out,HL0.out];exact HPP.out);have HSm:Hid (∀ j,((is++[(⟨o,(ofL t),N⟩:I3)]).getD j i3z).tx.size<=1048700):=small_snoc htx.out (by show ByteArray.size _<=1048700;rw [ofL_size];omega);clear hTz
 go_wp2_with (at_builtin;refine wpList_append_own _ rfl _ _ 85 rfl w1.heap.size 92 i0 (.agg #[.int .i64 0,.string ⟨#[]⟩,.int .i64 0]) 3 32 underlying85 hi hz0 hz1 hz2 rfl dc_ _ _ _ rfl (hownz.alloc _) ⟨w9.heap.size,0,none⟩ 1 1 [_,_,_] rfl rfl (row3g sm_ _ _ _ _) (by intro u hu;simp at hu;rcases hu with rfl | rfl | rfl <;> rfl) (by unfold maxLen;omega) om_ so_ ?_;intro v' w6 hown6 hgrow _;have HB6:Hid (w6.heap[w.heap.size+1]?=some (.cells #[v] 87 (0,0))):=app_keeps (v:=v) (by rw [Below.heap_alloc _ _ _ (blk_lt HTz.out)];exact HTz.out) (fun e=>by have:=(hownz.lt _ e).1;omega) hgrow;have HL6:Hid (LinesAt w6 g Ls):=lines_grown (lines_below HLz.out bA) hgrow (fun e=>by have:=(hownz.lt _ e.symm).1;omega);have HG:Hid (Below (w.heap.size+1) (w.alloc (.cells #[.slice none 0 0] 87)) w6):=(hbz'.alloc (by first | omega | (simp;omega)) _).grown hgrow so_ (fun k hk=>by have:=(hownz.lt k hk).1;omega);have hz6:w9.heap.size+1<=w6.heap.size:=(by have:=hgrow.size;simp at this;omega);obtain ⟨ao,cpo,rfl⟩:=row_form3 hown6;have d1:w6.cell? ⟨w.heap.size+1,0,none⟩=some v:=(by rw [Lib.cell_of_heap HB6.out];rfl);have f1:w6.frozen? ⟨w.heap.size+1,0,none⟩=false:=Lib.frozen_of_heap HB6.out 0;clear hgrow)
 go_roundw
 case rel=>
  refine ⟨is.length+1,is++[(⟨o,(ofL t),N⟩:I3)],.slice ao (is.length+1) cpo,om_,by go_num,sm_,HP,HSm,?_,?_,lines_but HL6.out ((But.refl (w.heap.size+1) w6).setCell 0 _) om_,HG.out.setCell sm_ _,so_⟩
  · exact heap_setCell_same w6 (w.heap.size+1) 0 _ _ _ HB6.out
  rw [insCells_snoc,List.length_append];exact ownsRow_setCell_below hown6 (by show w.heap.size+1<w1.heap.size;omega) _
 case measure=>simp [intOf];omega
theorem own_stW {w:World} {base b j:Nat} {e:TypeId} {size:Nat} {v x:Value} {n:Nat} {xs:List Value} (h:w.ownsRow base e size v n xs) (hb:b<base):(w.setCell ⟨b,j,none⟩ x).ownsRow base e size v n xs:=by
 refine ⟨h.1,h.2.imp id ?_⟩;rintro ⟨g,cap,cur,h1,h2,h3,h4⟩;exact ⟨g,cap,cur,h1,h2,(Below.heap_setCell _ _ _ _ (by show g≠b;omega)).trans h3,h4⟩
structure TB (u:World) (base R X:Nat) (v:Value) (is:List I3):Prop where
 r:u.heap[R]?=some (.cells #[.slice none 0 0] 87 (0,0))
 x:u.heap[X]?=some (.cells #[v] 87 (0,0))
 own:u.ownsRow base 92 3 v is.length (insCells is)
 lt:R<base/\X<base/\base<=u.heap.size/\R≠X
theorem own_but {u u':World} {q base:Nat} {e:TypeId} {size:Nat} {v:Value} {n:Nat} {xs:List Value} (h:u.ownsRow base e size v n xs) (hk:But q u u') (hq:q<base):u'.ownsRow base e size v n xs:=by
 obtain ⟨h1,h2⟩:=h;refine ⟨h1,?_⟩;rcases h2 with h | ⟨g,cap,cur,hv,hg,hh,hr⟩
 · exact .inl h
 · exact .inr ⟨g,cap,cur,hv,hg,by rw [hk.block g (blk_lt hh) om_];exact hh,hr⟩
theorem TB.but {u u':World} {q base R X:Nat} {v:Value} {is:List I3} (h:TB u base R X v is) (hk:But q u u') (hq:q<base) (hR:R≠q) (hX:X≠q):TB u' base R X v is:=by
 obtain ⟨r,x,o,l1,l2,l3,l4⟩:=h;exact ⟨by rw [hk.block R om_ hR];exact r,by rw [hk.block X om_ hX];exact x,own_but o hk hq,l1,l2,Nat.le_trans l3 hk.size,l4⟩
theorem TB.below {u u':World} {base R X:Nat} {v:Value} {is:List I3} (h:TB u base R X v is) (hb:Below u.heap.size u u'):TB u' base R X v is:=by
 obtain ⟨r,x,o,l1,l2,l3,l4⟩:=h;exact ⟨by rw [hb.block R om_];exact r,by rw [hb.block X om_];exact x,ownsRow_below o hb,l1,l2,Nat.le_trans l3 hb.size,l4⟩
theorem TB.cells {u:World} {base R X:Nat} {v:Value} {is:List I3} (h:TB u base R X v is):u.cell? ⟨X,0,none⟩=some v/\u.frozen? ⟨X,0,none⟩=false/\u.cell? ⟨R,0,none⟩=some (.slice none 0 0)/\u.frozen? ⟨R,0,none⟩=false:=
 ⟨by rw [Lib.cell_of_heap h.x];rfl,Lib.frozen_of_heap h.x 0,by rw [Lib.cell_of_heap h.r];rfl,Lib.frozen_of_heap h.r 0⟩
def ints16:Array Value:=#[.int .i64 0,.int .i64 0,.int .i64 0,.int .i64 1,.int .i64 1,.int .i64 2,.int .i64 3,.int .i64 4,.int .i64 5,.int .i64 6,.int .i64 7,.int .i64 8,.int .i64 4,.int .i64 3,.int .i64 1,.int .i64 0]
theorem pk16 (r:Int) (h0:0<=r) (h:r<16):∃ z:Int,ints16[r.toNat]?=some (.int .i64 z):=by
 obtain rfl | rfl | rfl | rfl | rfl | rfl | rfl | rfl | rfl | rfl | rfl | rfl | rfl | rfl | rfl | rfl:r=0\/r=1\/r=2\/r=3\/r=4\/r=5\/r=6\/r=7\/r=8\/r=9\/r=10\/r=11\/r=12\/r=13\/r=14\/r=15:=om_
 all_goals exact ⟨_,rfl⟩
def ints14:Array Value:=#[.int .i64 1,.int .i64 2,.int .i64 3,.int .i64 4,.int .i64 5,.int .i64 6,.int .i64 7,.int .i64 8,.int .i64 9,.int .i64 10,.int .i64 11,.int .i64 2,.int .i64 3,.int .i64 5]
theorem pk14 (r:Int) (h0:0<=r) (h:r<14):∃ z:Int,ints14[r.toNat]?=some (.int .i64 z):=by
 obtain rfl | rfl | rfl | rfl | rfl | rfl | rfl | rfl | rfl | rfl | rfl | rfl | rfl | rfl:r=0\/r=1\/r=2\/r=3\/r=4\/r=5\/r=6\/r=7\/r=8\/r=9\/r=10\/r=11\/r=12\/r=13:=om_
 all_goals exact ⟨_,rfl⟩
theorem but_set1 {q B:Nat} {w u:World} (h:But q w u) (hB:w.heap.size<=B) (j:Nat) (v0:Value):But q w (u.setCell ⟨B,j,none⟩ v0):=
 ⟨h.os,h.tape,h.output,by simpa using h.size,fun k hk hne=>by
  rw [heap_setCell_other _ ⟨B,j,none⟩ k _ (by show k≠B;omega)];exact h.block k hk hne⟩
theorem rd_set1 {q P B:Nat} {u:World} (h:RdTo u q P) (hB:q<B) (j:Nat) (v0:Value):RdTo (u.setCell ⟨B,j,none⟩ v0) q P:=by
 obtain ⟨p,hp,hr⟩:=h;exact ⟨p,hp,hr.later (B:=B) ((Below.refl B u).setCell (by exact Nat.le_refl _) _) hB⟩
theorem small_snocG {is:List I3} {x:I3} {N:Nat} (h:∀ j,(is.getD j i3z).tx.size<=N) (hx:x.tx.size<=N) (j:Nat):((is++[x]).getD j i3z).tx.size<=N:=by
 rcases Nat.lt_trichotomy j is.length with hj | hj | hj
 · have:(is++[x]).getD j i3z=is.getD j i3z:=by simp [List.getD,List.getElem?_append_left hj]
   rw [this];exact h j
 · subst hj
   have:(is++[x]).getD is.length i3z=x:=by simp [List.getD]
   rw [this];exact hx
 · have:(is++[x]).getD j i3z=i3z:=by simp [List.getD,List.getElem?_eq_none (show (is++[x]).length<=j by simp;omega)]
   rw [this];exact Nat.zero_le _
theorem RdTo.laterB {u u':World} {q P B:Nat} (h:RdTo u q P) (hb:Below B u u') (hq:q<B):RdTo u' q P:=by
 obtain ⟨p,h1,h2⟩:=h;exact ⟨p,h1,h2.later hb hq⟩
theorem But.laterB {q B:Nat} {w u u':World} (h:But q w u) (hb:Below B u u') (hB:w.heap.size<=B):But q w u':=
 ⟨hb.os.trans h.os,hb.tape.trans h.tape,hb.output.trans h.output,Nat.le_trans h.size hb.size,fun k hk hne=>(hb.block k om_).trans (h.block k hk hne)⟩
def XI (u:World) (Xi:Nat) (z:Int) (t:ByteArray) (o:Int):Prop:=u.heap[Xi]?=some (.cells #[.int .i64 z,.string t,.int .i64 o] 92 (0,0))
theorem XI.cells {u:World} {Xi:Nat} {z:Int} {t:ByteArray} {o:Int} (h:XI u Xi z t o):(u.cell? ⟨Xi,0,none⟩=some (.int .i64 z)/\u.cell? ⟨Xi,1,none⟩=some (.string t)/\u.cell? ⟨Xi,2,none⟩=some (.int .i64 o))/\u.frozen? ⟨Xi,1,none⟩=false/\u.frozen? ⟨Xi,2,none⟩=false:=
 ⟨⟨by rw [Lib.cell_of_heap h];rfl,by rw [Lib.cell_of_heap h];rfl,by rw [Lib.cell_of_heap h];rfl⟩,Lib.frozen_of_heap h 1,Lib.frozen_of_heap h 2⟩
theorem XI.but {u u':World} {q Xi:Nat} {z:Int} {t:ByteArray} {o:Int} (h:XI u Xi z t o) (hk:But q u u') (hX:Xi≠q):XI u' Xi z t o:=(hk.block Xi (blk_lt h) hX).trans h
theorem XI.set1 {u:World} {Xi:Nat} {z:Int} {t t':ByteArray} {o:Int} (h:XI u Xi z t o):XI (u.setCell ⟨Xi,1,none⟩ (.string t')) Xi z t' o:=heap_setCell_same u Xi 1 _ 92 _ h
theorem XI.set2 {u:World} {Xi:Nat} {z:Int} {t:ByteArray} {o o':Int} (h:XI u Xi z t o):XI (u.setCell ⟨Xi,2,none⟩ (.int .i64 o')) Xi z t o':=heap_setCell_same u Xi 2 _ 92 _ h
theorem TB.setX {u:World} {base R X Xi j:Nat} {v v0:Value} {is:List I3} (h:TB u base R X v is) (hR:R≠Xi) (hX:X≠Xi) (hv:∀ g,v.ownBlock=some g->g≠Xi):TB (u.setCell ⟨Xi,j,none⟩ v0) base R X v is:=by
 obtain ⟨r,x,o,l⟩:=h;refine ⟨by rw [heap_setCell_other _ ⟨Xi,j,none⟩ R _ hR];exact r,by rw [heap_setCell_other _ ⟨Xi,j,none⟩ X _ hX];exact x,?_,by simpa using l⟩;have o':=o;obtain ⟨h1,h2⟩:=o;refine ⟨h1,?_⟩;rcases h2 with h | ⟨g,cap,cur,rfl,hg,hh,hr⟩
 · exact .inl h
 · exact .inr ⟨g,cap,cur,rfl,hg,by rw [heap_setCell_other _ ⟨Xi,j,none⟩ g _ (hv g rfl)];exact hh,hr⟩
theorem TB.app {u w6:World} {base R X:Nat} {v v':Value} {is:List I3} {x:I3} {o:Obj} (h:TB u base R X v is) (hown:w6.ownsRow base 92 3 v' (is.length+1) (insCells is++[.int .i64 x.op,.string x.tx,.int .i64 x.to])) (hg:(u.alloc o).grownBy w6 v.ownBlock):TB (w6.setCell ⟨X,0,none⟩ v') base R X v' (is++[x])/\w6.heap[X]?=some (.cells #[v] 87 (0,0))/\Below base u w6:=by
 obtain ⟨r,xx,ow,l1,l2,l3,l4⟩:=h;have hb:Below base u w6:=((Below.refl base u).alloc l3 o).grown hg so_ (fun k hk=>(ow.lt k hk).1);have hX:w6.heap[X]?=some (.cells #[v] 87 (0,0)):=(hb.block X l2).trans xx;refine ⟨⟨?_,?_,?_,l1,l2,by simpa using Nat.le_trans l3 hb.size,l4⟩,hX,hb⟩
 · rw [heap_setCell_other _ ⟨X,0,none⟩ R _ l4,hb.block R l1];exact r
 · exact heap_setCell_same w6 X 0 _ 87 v' hX
 · rw [List.length_append,List.length_singleton,insCells_snoc]
   exact own_stW hown l2
theorem small_snocT {is:List I3} {x:I3} (h:SmallT is) (hx:x.tx.size<=4000):SmallT (is++[x]):=small_snocG h hx
theorem own3_from {w:World} {base:Nat} {v:Value} {is:List I3} (h:w.ownsRow base 92 3 v is.length (insCells is)):∃ a cap,v=.slice a is.length cap/\InsFrom base w a is:=by
 obtain ⟨a,cap,rfl,hat⟩:=own3_form h;refine ⟨a,cap,rfl,?_⟩;rcases hat with h0 | ⟨b,off,rfl,hlt,hc⟩
 · exact .inl h0
 · exact .inr ⟨b,off,rfl,(h.lt b rfl).1,hlt,hc⟩
theorem c44 (q P:Nat) (w:World) (hp:P<=80000) (hr:RdTo w q P):
 Calls prog 44 #[.pointer (some ⟨q,0,none⟩)] w fun e w'=>IsTool e w' 12 w.heap.size/\RdTo w' q (P+60)/\But q w w':=by
 have hqw:=hr.lt;have hA0:Below w.heap.size w (w.alloc (.cells #[.slice none 0 0] 87)):=bA;have HR:Hid (RdTo (w.alloc (.cells #[.slice none 0 0] 87)) q P):=hr.later hA0;clear hr;go_enter func44,ntmps44
 go_wp2_with fail
 refine (pickT (w.alloc (.cells #[.slice none 0 0] 87)) q P 4 om_ om_ om_ HR.out).mono ?_;rintro e w1 ⟨⟨r1,rfl,r10,r14⟩,h1,ho1⟩;have H1:Hid (RdTo w1 q (P+1)):=h1;have hs1:w1.heap.size=w.heap.size+1:=by rw [ho1.size];simp
 have hz1:w.heap.size+1<=w1.heap.size:=om_;have HT1:Hid (w1.heap[w.heap.size]?=some (.cells #[.slice none 0 0] 87 (0,0))):=(ho1.block _ om_).trans (alloc_new rfl _);have HB1:Hid (But q w w1):=(But.of_below hA0).trans ho1.but;clear h1 ho1 HR hs1;by_cases hgo:0<r1
 · have hA1:Below w1.heap.size w1 (w1.alloc (.cells ints16 3)):=bA
   have hq1:q<w1.heap.size:=H1.out.lt
   go_wp2_with fail
   refine (pickT (w1.alloc (.cells ints16 3)) q (P+1) 16 om_ om_ om_ (H1.out.later hA1)).mono ?_;rintro e w2 ⟨⟨r2,rfl,r20,r216⟩,h2,ho2⟩;obtain ⟨z,hz⟩:=pk16 r2 r20 r216;have k2:w2.cell? ⟨w1.heap.size,r2.toNat,none⟩=some (.int .i64 z):=by rw [ho2.cell (by show w1.heap.size≠q;omega),<- hz];simp
   have H2:Hid (RdTo w2 q (P+2)):=h2;have HB2:Hid (But q w w2):=(HB1.out.later hA1).trans ho2.but;have HT2:Hid (w2.heap[w.heap.size]?=some (.cells #[.slice none 0 0] 87 (0,0))):=by
    rw [Hid,ho2.block _ om_,Below.heap_alloc _ _ _ om_];exact HT1.out
   clear h2 ho2 HB1 HT1 H1 hz hA1
   go_wp2_with fail
   refine (c45 z w2).mono ?_;rintro e w3 ⟨⟨T,a,cap,rfl,hT,hTl,hTs⟩,hb3⟩;have hz2:w.heap.size<w2.heap.size:=blk_lt HT2.out;have HT3:Hid (w3.heap[w.heap.size]?=some (.cells #[.slice none 0 0] 87 (0,0))):=by rw [Hid,hb3.block _ hz2];exact HT2.out
   have c3:w3.cell? ⟨w.heap.size,0,none⟩=some (.slice none 0 0):=by rw [Lib.cell_of_heap HT3.out];rfl
   have f3:w3.frozen? ⟨w.heap.size,0,none⟩=false:=Lib.frozen_of_heap HT3.out 0;have H3:Hid (RdTo w3 q (P+2)):=H2.out.later hb3;have HB3:Hid (But q w w3):=HB2.out.later hb3;have HI3:Hid (InsFrom w.heap.size (w3.setCell ⟨w.heap.size,0,none⟩ (.slice a T.length cap)) a T):=(hT.set hz2).mono om_;clear hb3 HB2 H2 HT2;go_wp2;have er:=World.cell?_setCell_same w3 ⟨w.heap.size,0,none⟩ (.slice a T.length cap) c3;refine bodyPost_ret (v:=.agg #[.slice a T.length cap]) (by simp [results,Tryz.results44,go_sem,er]) rfl ⟨⟨T,a,cap,rfl,HI3.out,⟨hTl.1,om_⟩,hTs⟩,?_,?_⟩
   · exact (rd_set1 (H3.out.mono om_) hqw _ _)
   · exact but_set1 HB3.out lr_ _ _
 · obtain rfl:r1=0:=om_
   have hA1:Below w1.heap.size w1 (w1.alloc (.cells #[.slice none 0 0] 87)):=bA;have hq1:q<w1.heap.size:=H1.out.lt;have HTB1:Hid (TB (w1.alloc (.cells #[.slice none 0 0] 87)) (w1.heap.size+1) w.heap.size w1.heap.size (.slice none 0 0) []):=⟨by rw [Below.heap_alloc _ _ _ om_];exact HT1.out,alloc_new rfl _,World.ownsRow_nil _ _ _ _,om_,om_,sm_,om_⟩
   go_wp2_with fail
   refine (pickT (w1.alloc (.cells #[.slice none 0 0] 87)) q (P+1) 10 om_ om_ om_ (H1.out.later hA1)).mono ?_;rintro e w2 ⟨⟨r2,rfl,r20,r210⟩,h2,ho2⟩;have H2:Hid (RdTo w2 q (P+2)):=h2;have HB2:Hid (But q w w2):=(HB1.out.later hA1).trans ho2.but;have HTB2:Hid (TB w2 (w1.heap.size+1) w.heap.size w1.heap.size (.slice none 0 0) []):=HTB1.out.but ho2.but om_ om_ om_;clear h2 ho2 HTB1 hA1 HB1 HT1 H1;generalize hX:w1.heap.size=X at*;clear hX;obtain ⟨n2,rfl⟩:=Int.eq_ofNat_of_zero_le r20
   go_wp2_with fail
   go_loopw [4] (fun i wr=>∃ (k:Nat) (is:List I3) (v:Value),i=.int .i64 k/\(1<=k+is.length/\k+is.length<=10)/\Hid (SmallT is)/\Hid (TB wr (X+1) w.heap.size X v is)/\Hid (RdTo wr q (P+2+4*is.length))/\Hid (But q w wr)) (fun i _=>(intOf i).toNat)
   case atStart=>exact ⟨1+n2,[],.slice none 0 0,sm_,⟨sm_,so_⟩,small_lit rfl,HTB2,H2,HB2⟩
   case round=>
    clear HTB2 H2 HB2;obtain ⟨k,is,v,rfl,hk,hsm,htb,hrd,hbu⟩:=hrel;have hzr:=htb.out.lt.2.2.1;by_cases hk0:k=0
    · subst hk0
      go_wp2_with fail
      refine (pickT wr q (P+2+4*is.length) 3 om_ om_ om_ hrd.out).mono ?_;rintro e w3 ⟨⟨r3,rfl,r30,r33⟩,h3,ho3⟩;have H3:Hid (RdTo w3 q (P+2+4*is.length+1)):=h3;have HB3:Hid (But q w w3):=hbu.out.trans ho3.but;have HTB3:Hid (TB w3 (X+1) w.heap.size X v is):=htb.out.but ho3.but om_ om_ om_;have hz3:=HTB3.out.lt.2.2.1;clear h3 ho3 htb hrd hbu;by_cases hr3:0<r3
      · obtain ⟨j0,hi,hz0,hz1,hz2⟩:=info_parts info92
        obtain ⟨vc,vf,rc,rf⟩:=HTB3.out.cells;have hR3:w.heap.size<w3.heap.size:=om_;have hX3:X<w3.heap.size:=om_;have hown3:=HTB3.out.own
        go_wp2_with fail
        go_region_law (first | (refine step_app rfl (.tmp 56) (.tmp 58) 85 rfl (X+1) 92 j0 (.agg #[.int .i64 0,.string ⟨#[]⟩,.int .i64 0]) 3 32 underlying85 hi hz0 hz1 hz2 rfl dc_ _ _ _ rfl (hown4.alloc _) ⟨w4.heap.size,0,none⟩ 1 1 [_,_,_] rfl rfl (row3g rfl _ _ _ _) (by intro u hu;simp at hu;rcases hu with rfl | rfl | rfl <;> rfl) (by unfold maxLen;omega) om_ so_ ?_;intro v' w6 hown6 hgrow;have hAP:=HTB4.out.app (x:=⟨10,⟨#[]⟩,0⟩) hown6 hgrow;have d1:w6.cell? ⟨X,0,none⟩=some v:=(by rw [Lib.cell_of_heap hAP.2.1];rfl);have f1:w6.frozen? ⟨X,0,none⟩=false:=Lib.frozen_of_heap hAP.2.1 0;have HAP:Hid (TB (w6.setCell ⟨X,0,none⟩ v') (X+1) w.heap.size X v' (is++[⟨10,⟨#[]⟩,0⟩])):=hAP.1;have HBL:Hid (Below (X+1) w4 w6):=hAP.2.2;obtain ⟨ao,cpo,hvf⟩:=row_form3 hown6;subst hvf;clear hgrow hAP hown6) | (go_simp;go_wp2_with (go_at_call 47;refine (c47 10 _).mono ?_;rintro e w4 ⟨rfl,hb4⟩;have HB34:Hid (Below w3.heap.size w3 w4):=(Below.refl _ _).drew.trans hb4;have HTB4:Hid (TB w4 (X+1) w.heap.size X v is):=HTB3.out.below HB34.out;have hown4:=HTB4.out.own;have hz4:X+1<=w4.heap.size:=HTB4.out.lt.2.2.1;have vc4:=HTB4.out.cells.1;have hX4:X<w4.heap.size:=om_;clear hb4)))
        all_goals
         obtain ⟨xc,xf,rc6,rf6⟩:=HAP.out.cells;obtain ⟨a',cap',hva,hfrom⟩:=own3_from HAP.out.own;have hva':ao=a'/\is.length+1=(is++[(⟨10,⟨#[]⟩,0⟩:I3)]).length/\cpo=cap':=by injection hva with h1 h2 h3;exact ⟨h1,h2,h3⟩
         obtain ⟨rfl,hll,rfl⟩:=hva';clear hll;have HF:Hid (InsFrom (X+1) (w6.setCell ⟨X,0,none⟩ (.slice ao (is.length+1) cpo)) ao (is++[⟨10,⟨#[]⟩,0⟩])):=hfrom;have HR7:Hid (RdTo (w6.setCell ⟨X,0,none⟩ (.slice ao (is.length+1) cpo)) q (P+60)):=rd_set1 (((H3.out.later HB34.out).laterB HBL.out om_).mono om_) om_ _ _;have HB7:Hid (But q w (w6.setCell ⟨X,0,none⟩ (.slice ao (is.length+1) cpo))):=but_set1 ((HB3.out.later HB34.out).laterB HBL.out om_) om_ _ _;clear hva hfrom vc vf d1 f1 HBL HB34 HTB4 HTB3 HAP hown3 hown4 vc4 H3 HB3 rc rf;generalize w6.setCell ⟨X,0,none⟩ (.slice ao (is.length+1) cpo)=w7 at*;go_wp2;have er:=World.cell?_setCell_same w7 ⟨w.heap.size,0,none⟩ (.slice ao (is.length+1) cpo) rc6;refine bodyPost_ret (v:=.agg #[.slice ao (is.length+1) cpo]) (by simp [results,Tryz.results44,go_sem,er]) rfl ⟨⟨is++[⟨10,⟨#[]⟩,0⟩],ao,cpo,sm_,(HF.out.set om_).mono om_,⟨sm_,so_⟩,small_snocT hsm.out (by show (⟨#[]⟩:ByteArray).size<=4000;decide)⟩,?_,?_⟩
         · exact rd_set1 HR7.out om_ _ _
         · exact but_set1 HB7.out lr_ _ _
      · obtain rfl:r3=0:=om_
        obtain ⟨vc,vf,rc,rf⟩:=HTB3.out.cells;obtain ⟨a',cap',hva,hfrom⟩:=own3_from HTB3.out.own;subst hva;have HF:Hid (InsFrom (X+1) w3 a' is):=hfrom;clear hfrom;go_wp2;have er:=World.cell?_setCell_same w3 ⟨w.heap.size,0,none⟩ (.slice a' is.length cap') rc;refine bodyPost_ret (v:=.agg #[.slice a' is.length cap']) (by simp [results,Tryz.results44,go_sem,er]) rfl ⟨⟨is,a',cap',rfl,(HF.out.set om_).mono om_,⟨om_,om_⟩,hsm.out⟩,?_,?_⟩
        · exact rd_set1 (H3.out.mono om_) hqw _ _
        · exact but_set1 HB3.out lr_ _ _
    · have hpos:(0:Int)<(k:Int):=om_
      have hAr:Below wr.heap.size wr (wr.alloc (.cells ints14 3)):=bA;have hqr:q<wr.heap.size:=om_
      go_wp2_with fail
      refine (pickT (wr.alloc (.cells ints14 3)) q (P+2+4*is.length) 14 om_ om_ om_ (hrd.out.later hAr)).mono ?_;rintro e w3 ⟨⟨r3,rfl,r30,r314⟩,h3,ho3⟩;obtain ⟨z,hz⟩:=pk14 r3 r30 r314;have k3:w3.cell? ⟨wr.heap.size,r3.toNat,none⟩=some (.int .i64 z):=by rw [ho3.cell (by show wr.heap.size≠q;omega),<- hz];simp
      have H3:Hid (RdTo w3 q (P+2+4*is.length+1)):=h3;have HB3:Hid (But q w w3):=(hbu.out.later hAr).trans ho3.but;have HTB3:Hid (TB w3 (X+1) w.heap.size X v is):=(htb.out.below hAr).but ho3.but om_ om_ om_;clear h3 ho3 hAr htb hrd hbu hz
      go_wp2_with fail
      refine (c78 z _).mono ?_;rintro e w4 ⟨rfl,hw4⟩;obtain rfl:=hw4.symm;have hA3:Below w3.heap.size w3 (w3.alloc (.cells #[.int .i64 z,.string ⟨#[]⟩,.int .i64 0] 92)):=bA;have HXI3:Hid (XI (w3.alloc (.cells #[.int .i64 z,.string ⟨#[]⟩,.int .i64 0] 92)) w3.heap.size z ⟨#[]⟩ 0):=alloc_new rfl _;have HTBx:Hid (TB (w3.alloc (.cells #[.int .i64 z,.string ⟨#[]⟩,.int .i64 0] 92)) (X+1) w.heap.size X v is):=HTB3.out.below hA3;have HRx:Hid (RdTo (w3.alloc (.cells #[.int .i64 z,.string ⟨#[]⟩,.int .i64 0] 92)) q (P+2+4*is.length+1)):=H3.out.later hA3;have HBx:Hid (But q w (w3.alloc (.cells #[.int .i64 z,.string ⟨#[]⟩,.int .i64 0] 92))):=HB3.out.later hA3;have hz3:=HTB3.out.lt.2.2.1;have HVB:Hid (∀ g,v.ownBlock=some g->g≠w3.heap.size):=fun g hg=>by have:=(HTB3.out.own.lt g hg).2;omega
      clear HTB3 H3 HB3 hA3;obtain ⟨j0,hi,hz0,hz1,hz2⟩:=info_parts info92;cases hux:usesTx z
      · cases hut:usesTo z
        · obtain ⟨⟨i0c,i1c,i2c⟩,_,_⟩:=(HXI3.out).cells
          obtain ⟨vc,vf,_,_⟩:=(HTBx.out).cells;have HTBU:Hid (TB (w3.alloc (.cells #[.int .i64 z,.string ⟨#[]⟩,.int .i64 0] 92)) (X+1) w.heap.size X v is):=HTBx.out;have hownU:=(HTBx.out).own;have hzU:=(HTBx.out).lt.2.2.1;have HRU:Hid (RdTo (w3.alloc (.cells #[.int .i64 z,.string ⟨#[]⟩,.int .i64 0] 92)) q (P+2+4*is.length+4)):=HRx.out.mono om_;have HBU:Hid (But q w (w3.alloc (.cells #[.int .i64 z,.string ⟨#[]⟩,.int .i64 0] 92))):=HBx.out
          go_wp2_with (at_builtin;refine wpList_append_own _ rfl _ _ 85 rfl (X+1) 92 j0 (.agg #[.int .i64 0,.string ⟨#[]⟩,.int .i64 0]) 3 32 underlying85 hi hz0 hz1 hz2 rfl dc_ _ _ _ rfl (hownU.alloc _) ⟨w3.heap.size+1,0,none⟩ 1 1 [_,_,_] rfl rfl (row3g sm_ _ _ _ _) (by intro u hu;simp at hu;rcases hu with rfl | rfl | rfl <;> rfl) (by unfold maxLen;omega) om_ (by simp at hzU ⊢;omega) ?_;intro v' w6 hown6 hgrow _;have hAP:=HTBU.out.app (x:=⟨z,⟨#[]⟩,0⟩) hown6 hgrow;have d1:w6.cell? ⟨X,0,none⟩=some v:=(by rw [Lib.cell_of_heap hAP.2.1];rfl);have f1:w6.frozen? ⟨X,0,none⟩=false:=Lib.frozen_of_heap hAP.2.1 0;have HAP:Hid (TB (w6.setCell ⟨X,0,none⟩ v') (X+1) w.heap.size X v' (is++[⟨z,⟨#[]⟩,0⟩])):=hAP.1;have HBL:Hid (Below (X+1) (w3.alloc (.cells #[.int .i64 z,.string ⟨#[]⟩,.int .i64 0] 92)) w6):=hAP.2.2;obtain ⟨ao,cpo,hvf⟩:=row_form3 hown6;subst hvf;clear hgrow hAP hown6)
          go_roundw
          case rel=>
           refine ⟨k - 1,is++[⟨z,⟨#[]⟩,0⟩],_,by go_num,⟨so_,so_⟩,small_snocT hsm.out (by show (⟨#[]⟩:ByteArray).size<=4000;decide),HAP,?_,?_⟩
           · have h:=rd_set1 (HRU.out.laterB HBL.out om_) (by show q<X;omega) 0 (.slice ao (is.length+1) cpo)
             have e:P+2+4*(is++[(⟨z,⟨#[]⟩,0⟩:I3)]).length=P+2+4*is.length+4:=so_;rw [Hid,e];exact h
           · exact but_set1 (HBU.out.laterB HBL.out om_) om_ _ _
          case measure=>simp [intOf];omega
        · go_wp2_with fail
          refine (pickT (w3.alloc (.cells #[.int .i64 z,.string ⟨#[]⟩,.int .i64 0] 92)) q (P+2+4*is.length+1) 8 om_ om_ om_ HRx.out).mono ?_;rintro e w5 ⟨⟨r5,rfl,r50,r58⟩,h5,ho5⟩;have H5:Hid (RdTo w5 q (P+2+4*is.length+1+1)):=h5;have HB5':Hid (But q w w5):=HBx.out.trans ho5.but;have HXI5':Hid (XI w5 w3.heap.size z ⟨#[]⟩ 0):=HXI3.out.but ho5.but om_;have HTB5':Hid (TB w5 (X+1) w.heap.size X v is):=HTBx.out.but ho5.but om_ om_ om_;have HXI6:Hid (XI (w5.setCell ⟨w3.heap.size,2,none⟩ (.int .i64 r5)) w3.heap.size z ⟨#[]⟩ r5):=HXI5'.out.set2;have HTB6:Hid (TB (w5.setCell ⟨w3.heap.size,2,none⟩ (.int .i64 r5)) (X+1) w.heap.size X v is):=HTB5'.out.setX om_ om_ HVB.out;have HR6:Hid (RdTo (w5.setCell ⟨w3.heap.size,2,none⟩ (.int .i64 r5)) q (P+2+4*is.length+1+1)):=rd_set1 H5.out om_ _ _;have HB6:Hid (But q w (w5.setCell ⟨w3.heap.size,2,none⟩ (.int .i64 r5))):=but_set1 HB5'.out om_ _ _;obtain ⟨⟨a50,a51,a52⟩,fb1,fb2⟩:=HXI5'.out.cells;obtain ⟨vc5,vf5,_,_⟩:=HTB5'.out.cells;clear h5 ho5;obtain ⟨⟨i0c,i1c,i2c⟩,_,_⟩:=(HXI6.out).cells;obtain ⟨vc,vf,_,_⟩:=(HTB6.out).cells;have HTBU:Hid (TB (w5.setCell ⟨w3.heap.size,2,none⟩ (.int .i64 r5)) (X+1) w.heap.size X v is):=HTB6.out;have hownU:=(HTB6.out).own;have hzU:=(HTB6.out).lt.2.2.1;have HRU:Hid (RdTo (w5.setCell ⟨w3.heap.size,2,none⟩ (.int .i64 r5)) q (P+2+4*is.length+4)):=HR6.out.mono om_;have HBU:Hid (But q w (w5.setCell ⟨w3.heap.size,2,none⟩ (.int .i64 r5))):=HB6.out
          go_wp2_with (at_builtin;refine wpList_append_own _ rfl _ _ 85 rfl (X+1) 92 j0 (.agg #[.int .i64 0,.string ⟨#[]⟩,.int .i64 0]) 3 32 underlying85 hi hz0 hz1 hz2 rfl dc_ _ _ _ rfl (hownU.alloc _) ⟨w5.heap.size,0,none⟩ 1 1 [_,_,_] rfl rfl (row3g sm_ _ _ _ _) (by intro u hu;simp at hu;rcases hu with rfl | rfl | rfl <;> rfl) (by unfold maxLen;omega) om_ (by simp at hzU ⊢;omega) ?_;intro v' w6 hown6 hgrow _;have hAP:=HTBU.out.app (x:=⟨z,⟨#[]⟩,r5⟩) hown6 hgrow;have d1:w6.cell? ⟨X,0,none⟩=some v:=(by rw [Lib.cell_of_heap hAP.2.1];rfl);have f1:w6.frozen? ⟨X,0,none⟩=false:=Lib.frozen_of_heap hAP.2.1 0;have HAP:Hid (TB (w6.setCell ⟨X,0,none⟩ v') (X+1) w.heap.size X v' (is++[⟨z,⟨#[]⟩,r5⟩])):=hAP.1;have HBL:Hid (Below (X+1) (w5.setCell ⟨w3.heap.size,2,none⟩ (.int .i64 r5)) w6):=hAP.2.2;obtain ⟨ao,cpo,hvf⟩:=row_form3 hown6;subst hvf;clear hgrow hAP hown6)
          go_roundw
          case rel=>
           refine ⟨k - 1,is++[⟨z,⟨#[]⟩,r5⟩],_,by go_num,⟨so_,so_⟩,small_snocT hsm.out (by show (⟨#[]⟩:ByteArray).size<=4000;decide),HAP,?_,?_⟩
           · have h:=rd_set1 (HRU.out.laterB HBL.out om_) (by show q<X;omega) 0 (.slice ao (is.length+1) cpo)
             have e:P+2+4*(is++[(⟨z,⟨#[]⟩,r5⟩:I3)]).length=P+2+4*is.length+4:=so_;rw [Hid,e];exact h
           · exact but_set1 (HBU.out.laterB HBL.out om_) om_ _ _
          case measure=>simp [intOf];omega
      · cases hut:usesTo z
        · go_wp2_with fail
          refine (c42 q (P+2+4*is.length+1) (w3.alloc (.cells #[.int .i64 z,.string ⟨#[]⟩,.int .i64 0] 92)) om_ HRx.out).mono ?_;rintro e w4 ⟨⟨tx,rfl,htx⟩,h4,hb4⟩;have H4:Hid (RdTo w4 q (P+2+4*is.length+3)):=h4;have HB4:Hid (But q w w4):=HBx.out.trans hb4;have HXI4:Hid (XI w4 w3.heap.size z ⟨#[]⟩ 0):=HXI3.out.but hb4 om_;have HTB4:Hid (TB w4 (X+1) w.heap.size X v is):=HTBx.out.but hb4 om_ om_ om_;have HXI5:Hid (XI (w4.setCell ⟨w3.heap.size,1,none⟩ (.string tx)) w3.heap.size z tx 0):=HXI4.out.set1;have HTB5:Hid (TB (w4.setCell ⟨w3.heap.size,1,none⟩ (.string tx)) (X+1) w.heap.size X v is):=HTB4.out.setX om_ om_ HVB.out;have HR5:Hid (RdTo (w4.setCell ⟨w3.heap.size,1,none⟩ (.string tx)) q (P+2+4*is.length+3)):=rd_set1 H4.out om_ _ _;have HB5:Hid (But q w (w4.setCell ⟨w3.heap.size,1,none⟩ (.string tx))):=but_set1 HB4.out om_ _ _;obtain ⟨⟨a40,a41,a42⟩,fa1,fa2⟩:=HXI4.out.cells;clear h4 hb4 HXI3 HTBx HRx HBx;obtain ⟨vc4,vf4,_,_⟩:=HTB4.out.cells;obtain ⟨⟨i0c,i1c,i2c⟩,_,_⟩:=(HXI5.out).cells;obtain ⟨vc,vf,_,_⟩:=(HTB5.out).cells;have HTBU:Hid (TB (w4.setCell ⟨w3.heap.size,1,none⟩ (.string tx)) (X+1) w.heap.size X v is):=HTB5.out;have hownU:=(HTB5.out).own;have hzU:=(HTB5.out).lt.2.2.1;have HRU:Hid (RdTo (w4.setCell ⟨w3.heap.size,1,none⟩ (.string tx)) q (P+2+4*is.length+4)):=HR5.out.mono om_;have HBU:Hid (But q w (w4.setCell ⟨w3.heap.size,1,none⟩ (.string tx))):=HB5.out
          go_wp2_with (at_builtin;refine wpList_append_own _ rfl _ _ 85 rfl (X+1) 92 j0 (.agg #[.int .i64 0,.string ⟨#[]⟩,.int .i64 0]) 3 32 underlying85 hi hz0 hz1 hz2 rfl dc_ _ _ _ rfl (hownU.alloc _) ⟨w4.heap.size,0,none⟩ 1 1 [_,_,_] rfl rfl (row3g sm_ _ _ _ _) (by intro u hu;simp at hu;rcases hu with rfl | rfl | rfl <;> rfl) (by unfold maxLen;omega) om_ (by simp at hzU ⊢;omega) ?_;intro v' w6 hown6 hgrow _;have hAP:=HTBU.out.app (x:=⟨z,tx,0⟩) hown6 hgrow;have d1:w6.cell? ⟨X,0,none⟩=some v:=(by rw [Lib.cell_of_heap hAP.2.1];rfl);have f1:w6.frozen? ⟨X,0,none⟩=false:=Lib.frozen_of_heap hAP.2.1 0;have HAP:Hid (TB (w6.setCell ⟨X,0,none⟩ v') (X+1) w.heap.size X v' (is++[⟨z,tx,0⟩])):=hAP.1;have HBL:Hid (Below (X+1) (w4.setCell ⟨w3.heap.size,1,none⟩ (.string tx)) w6):=hAP.2.2;obtain ⟨ao,cpo,hvf⟩:=row_form3 hown6;subst hvf;clear hgrow hAP hown6)
          go_roundw
          case rel=>
           refine ⟨k - 1,is++[⟨z,tx,0⟩],_,by go_num,⟨so_,so_⟩,small_snocT hsm.out (by show tx.size<=4000;omega),HAP,?_,?_⟩
           · have h:=rd_set1 (HRU.out.laterB HBL.out om_) (by show q<X;omega) 0 (.slice ao (is.length+1) cpo)
             have e:P+2+4*(is++[(⟨z,tx,0⟩:I3)]).length=P+2+4*is.length+4:=so_;rw [Hid,e];exact h
           · exact but_set1 (HBU.out.laterB HBL.out om_) om_ _ _
          case measure=>simp [intOf];omega
        · go_wp2_with fail
          refine (c42 q (P+2+4*is.length+1) (w3.alloc (.cells #[.int .i64 z,.string ⟨#[]⟩,.int .i64 0] 92)) om_ HRx.out).mono ?_;rintro e w4 ⟨⟨tx,rfl,htx⟩,h4,hb4⟩;have H4:Hid (RdTo w4 q (P+2+4*is.length+3)):=h4;have HB4:Hid (But q w w4):=HBx.out.trans hb4;have HXI4:Hid (XI w4 w3.heap.size z ⟨#[]⟩ 0):=HXI3.out.but hb4 om_;have HTB4:Hid (TB w4 (X+1) w.heap.size X v is):=HTBx.out.but hb4 om_ om_ om_;have HXI5:Hid (XI (w4.setCell ⟨w3.heap.size,1,none⟩ (.string tx)) w3.heap.size z tx 0):=HXI4.out.set1;have HTB5:Hid (TB (w4.setCell ⟨w3.heap.size,1,none⟩ (.string tx)) (X+1) w.heap.size X v is):=HTB4.out.setX om_ om_ HVB.out;have HR5:Hid (RdTo (w4.setCell ⟨w3.heap.size,1,none⟩ (.string tx)) q (P+2+4*is.length+3)):=rd_set1 H4.out om_ _ _;have HB5:Hid (But q w (w4.setCell ⟨w3.heap.size,1,none⟩ (.string tx))):=but_set1 HB4.out om_ _ _;obtain ⟨⟨a40,a41,a42⟩,fa1,fa2⟩:=HXI4.out.cells;clear h4 hb4 HXI3 HTBx HRx HBx
          go_wp2_with fail
          refine (pickT (w4.setCell ⟨w3.heap.size,1,none⟩ (.string tx)) q (P+2+4*is.length+3) 8 om_ om_ om_ HR5.out).mono ?_;rintro e w5 ⟨⟨r5,rfl,r50,r58⟩,h5,ho5⟩;have H5:Hid (RdTo w5 q (P+2+4*is.length+3+1)):=h5;have HB5':Hid (But q w w5):=HB5.out.trans ho5.but;have HXI5':Hid (XI w5 w3.heap.size z tx 0):=HXI5.out.but ho5.but om_;have HTB5':Hid (TB w5 (X+1) w.heap.size X v is):=HTB5.out.but ho5.but om_ om_ om_;have HXI6:Hid (XI (w5.setCell ⟨w3.heap.size,2,none⟩ (.int .i64 r5)) w3.heap.size z tx r5):=HXI5'.out.set2;have HTB6:Hid (TB (w5.setCell ⟨w3.heap.size,2,none⟩ (.int .i64 r5)) (X+1) w.heap.size X v is):=HTB5'.out.setX om_ om_ HVB.out;have HR6:Hid (RdTo (w5.setCell ⟨w3.heap.size,2,none⟩ (.int .i64 r5)) q (P+2+4*is.length+3+1)):=rd_set1 H5.out om_ _ _;have HB6:Hid (But q w (w5.setCell ⟨w3.heap.size,2,none⟩ (.int .i64 r5))):=but_set1 HB5'.out om_ _ _;obtain ⟨⟨a50,a51,a52⟩,fb1,fb2⟩:=HXI5'.out.cells;obtain ⟨vc5,vf5,_,_⟩:=HTB5'.out.cells;clear h5 ho5;obtain ⟨⟨i0c,i1c,i2c⟩,_,_⟩:=(HXI6.out).cells;obtain ⟨vc,vf,_,_⟩:=(HTB6.out).cells;have HTBU:Hid (TB (w5.setCell ⟨w3.heap.size,2,none⟩ (.int .i64 r5)) (X+1) w.heap.size X v is):=HTB6.out;have hownU:=(HTB6.out).own;have hzU:=(HTB6.out).lt.2.2.1;have HRU:Hid (RdTo (w5.setCell ⟨w3.heap.size,2,none⟩ (.int .i64 r5)) q (P+2+4*is.length+4)):=HR6.out.mono om_;have HBU:Hid (But q w (w5.setCell ⟨w3.heap.size,2,none⟩ (.int .i64 r5))):=HB6.out
          go_wp2_with (at_builtin;refine wpList_append_own _ rfl _ _ 85 rfl (X+1) 92 j0 (.agg #[.int .i64 0,.string ⟨#[]⟩,.int .i64 0]) 3 32 underlying85 hi hz0 hz1 hz2 rfl dc_ _ _ _ rfl (hownU.alloc _) ⟨w5.heap.size,0,none⟩ 1 1 [_,_,_] rfl rfl (row3g sm_ _ _ _ _) (by intro u hu;simp at hu;rcases hu with rfl | rfl | rfl <;> rfl) (by unfold maxLen;omega) om_ (by simp at hzU ⊢;omega) ?_;intro v' w6 hown6 hgrow _;have hAP:=HTBU.out.app (x:=⟨z,tx,r5⟩) hown6 hgrow;have d1:w6.cell? ⟨X,0,none⟩=some v:=(by rw [Lib.cell_of_heap hAP.2.1];rfl);have f1:w6.frozen? ⟨X,0,none⟩=false:=Lib.frozen_of_heap hAP.2.1 0;have HAP:Hid (TB (w6.setCell ⟨X,0,none⟩ v') (X+1) w.heap.size X v' (is++[⟨z,tx,r5⟩])):=hAP.1;have HBL:Hid (Below (X+1) (w5.setCell ⟨w3.heap.size,2,none⟩ (.int .i64 r5)) w6):=hAP.2.2;obtain ⟨ao,cpo,hvf⟩:=row_form3 hown6;subst hvf;clear hgrow hAP hown6)
          go_roundw
          case rel=>
           refine ⟨k - 1,is++[⟨z,tx,r5⟩],_,by go_num,⟨so_,so_⟩,small_snocT hsm.out (by show tx.size<=4000;omega),HAP,?_,?_⟩
           · have h:=rd_set1 (HRU.out.laterB HBL.out om_) (by show q<X;omega) 0 (.slice ao (is.length+1) cpo)
             have e:P+2+4*(is++[(⟨z,tx,r5⟩:I3)]).length=P+2+4*is.length+4:=so_;rw [Hid,e];exact h
           · exact but_set1 (HBU.out.laterB HBL.out om_) om_ _ _
          case measure=>simp [intOf];omega
end Go.Proofs.YthjhakdpikdoeaaGreatDoor
