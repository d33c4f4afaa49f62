import Derived.Test.YthfmmimmfcnhmaaGreatDoorZ20
set_option maxHeartbeats 8000000
set_option maxRecDepth 100000
namespace Go.Proofs.YthfmmimmfcnhmaaGreatDoor
open Proofs.Tryz
open Go.RowKit
def Is12o (w:World) (l:List UInt8) (e:Ending) (w':World):Prop:=∃ (is:List I3) (ok:Bool) (a:Option Addr) (cap:Nat),e=.returned (.tuple #[.agg #[.slice a is.length cap],.bool ok])/\w'.ownsRow w.heap.size 183 3 (.slice a is.length cap) is.length (insCells is)/\IsRead l is ok
theorem c86o (s:ByteArray) (w:World) (hs:s.size<=1048576):
 Calls prog 86 #[.string s] w fun e w'=>Is12o w s.data.toList e w'/\Below w.heap.size w w':=by
 have hlen:s.data.toList.length=s.size:=by simp
 obtain ⟨i0,hi,hz0,hz1,hz2⟩:=info_parts info183
 have hBR:Below w.heap.size w (w.alloc (.cells #[.slice none 0 0] 150)):=(Below.refl _ _).alloc (Nat.le_refl _) _
 by_cases h300:300<s.size
 · have HR:Hid (IsRead s.data.toList [] false):=read_long (by omega)
   go_enter func86,ntmps86
   go_wp2
   refine bodyPost_ret (v:=.tuple #[.agg #[.slice none 0 0],.bool false]) (by simp [results,Tryz.results86,go_sem]) rfl ⟨⟨[],false,none,0,rfl,World.ownsRow_nil _ _ _ _,HR.out⟩,hBR⟩
 go_enter func86,ntmps86
 go_wp2_with fail
 refine (c79 s 10 _ (by omega)).mono ?_
 rintro e w1 ⟨⟨g,cp,rfl,hg,hln⟩,hb1⟩
 have hx1:Below (w.heap.size+1) (w.alloc (.cells #[.slice none 0 0] 150)) w1:=((Below.refl _ _).alloc (by simp) _).trans (hb1.mono (by simp))
 have hT1:w1.heap[w.heap.size+1]?=some (.cells #[.slice none 0 0] 150 (0,0)):=(hb1.block _ (by simp)).trans (alloc_new (by simp) _)
 have HT1:Hid (w1.heap[w.heap.size+1]?=some (.cells #[.slice none 0 0] 150 (0,0))):=hT1
 have hg2:w.heap.size+2<=g:=by simpa using hg
 have HLN:Hid (LinesAt w1 g (cutS 10 s.data.toList)):=hln
 have hz1':w.heap.size+2<=w1.heap.size:=by have:=hb1.size;simpa using this
 obtain ⟨hn1,hn2⟩:=cut_len 10 s.data.toList
 have hcs:=cut_small 10 s.data.toList
 have HCS:Hid (∀ k,((cutS 10 s.data.toList).getD k []).length<=s.data.toList.length):=hcs
 have hgl:g<w1.heap.size:=hln.1
 clear hT1 hb1 hln hg hcs
 go_wp2_with fail
 generalize hLs:cutS 10 s.data.toList=Ls at*
 have HLs:Hid (cutS 10 s.data.toList=Ls):=hLs
 clear hLs
 go_loopw [6] (fun i wr=>∃ (k:Nat) (is:List I3) (v:Value),k+1<=Ls.length/\i=.int .i64 k/\is.length=k/\Hid (Sofar s.data.toList is k)/\Hid (∀ j,(is.getD j i3z).tx.size<=1048700)/\Hid (wr.heap[w.heap.size+1]?=some (.cells #[v] 150 (0,0)))/\wr.ownsRow w1.heap.size 183 3 v is.length (insCells is)/\Hid (LinesAt wr g Ls)/\Below (w.heap.size+1) (w.alloc (.cells #[.slice none 0 0] 150)) wr/\w1.heap.size<=wr.heap.size) (fun i _=>Ls.length - (intOf i).toNat)
 case atStart=>exact ⟨0,[],.slice none 0 0,by omega,rfl,rfl,sofar_start _,(fun j=>by simp [i3z,ByteArray.size]),HT1,World.ownsRow_nil _ _ _ _,HLN,hx1,Nat.le_refl _⟩
 obtain ⟨k,is,v,hk,rfl,hisl,hso,htx,hT,hown,hlnr,hbx,hzr⟩:=hrel
 subst hisl
 have hb:Below w.heap.size w wr:=hBR.trans (hbx.mono (by omega))
 by_cases hlt:is.length+1<Ls.length
 rotate_left
 · obtain ⟨HE1,HE2⟩:=sofar_end hso.out (by rw [HLs.out];omega) (by omega)
   have H1:Hid (s.data.toList≠[]/\formL is=s.data.toList->IsRead s.data.toList is true):=HE1
   have H2:Hid (¬ (s.data.toList≠[]/\formL is=s.data.toList)->IsRead s.data.toList [] false):=HE2
   clear HE1 HE2
   have hRr:wr.cell? ⟨w.heap.size,0,none⟩=some (.slice none 0 0):=(hbx.cell (p:=⟨w.heap.size,0,none⟩) (by simp)).trans (by simp [go_sem])
   have hRf:wr.frozen? ⟨w.heap.size,0,none⟩=false:=(hbx.frozen (p:=⟨w.heap.size,0,none⟩) (by simp)).trans (by simp [go_sem])
   obtain ⟨ao,cpo,hv,hat⟩:=own3_form hown
   subst hv
   have HAT:Hid (InsAt wr ao is):=hat
   have hTc:wr.cell? ⟨w.heap.size+1,0,none⟩=some (.slice ao is.length cpo):=by rw [Lib.cell_of_heap hT.out];rfl
   have hTs:s.toList=s.data.toList:=ByteArray.toList_eq s
   clear hat hso hT
   by_cases he:s.data.toList=[]
   · have HR:Hid (IsRead s.data.toList [] false):=H2.out (fun h=>h.1 he)
     have e0:s.toList=[]:=by rw [hTs];exact he
     clear he H1 H2 hTs
     go_wp2
     refine bodyPost_ret (v:=.tuple #[.agg #[.slice none 0 0],.bool false]) (by simp [results,Tryz.results86,go_sem,World.cell?_setCell_same _ _ _ hRr]) rfl ⟨⟨[],false,none,0,rfl,World.ownsRow_nil _ _ _ _,HR.out⟩,hb.setCell (by simp) _⟩
   have e0:s.toList.isEmpty=false:=by
    rw [hTs]
    cases hq:s.data.toList with
    | nil=>exact absurd hq he
    | cons a r=>rfl
   have e1:¬ s.toList=[]:=by rw [hTs];exact he
   have HTS:Hid (s.toList=s.data.toList):=hTs
   clear hTs
   go_wp2_with fail
   refine (c121 ao cpo is wr htx.out (by omega) HAT.out).mono ?_
   rintro e w5 ⟨rfl,hb5⟩
   have hB5:Below w.heap.size w w5:=hb.trans (hb5.mono hb.size)
   have hRr5:w5.cell? ⟨w.heap.size,0,none⟩=some (.slice none 0 0):=(hb5.cell (p:=⟨w.heap.size,0,none⟩) (by simp;omega)).trans hRr
   have hRf5:w5.frozen? ⟨w.heap.size,0,none⟩=false:=(hb5.frozen (p:=⟨w.heap.size,0,none⟩) (by simp;omega)).trans hRf
   have hTc5:w5.cell? ⟨w.heap.size+1,0,none⟩=some (.slice ao is.length cpo):=(hb5.cell (p:=⟨w.heap.size+1,0,none⟩) (by simp;omega)).trans hTc
   have hown5:w5.ownsRow w1.heap.size 183 3 (.slice ao is.length cpo) is.length (insCells is):=ownsRow_below hown hb5
   have hown6:Hid ((w5.setCell ⟨w.heap.size,0,none⟩ (.slice ao is.length cpo)).ownsRow w.heap.size 183 3 (.slice ao is.length cpo) is.length (insCells is)):=owns_mono (ownsRow_setCell_below hown5 (a:=⟨w.heap.size,0,none⟩) (by show w.heap.size<w1.heap.size;omega) (.slice ao is.length cpo)) (by omega)
   clear hRr hRf hTc hb5 hown hown5 HAT
   by_cases hf:formL is=s.data.toList
   · have HR:Hid (IsRead s.data.toList is true):=H1.out ⟨he,hf⟩
     have e2:((ofL (formL is)).toList==s.toList)=true:=by rw [hf,HTS.out,ByteArray.toList_eq];simp [ofL]
     clear hf he H1 H2
     go_wp2
     refine bodyPost_ret (v:=.tuple #[.agg #[.slice ao is.length cpo],.bool true]) (by simp [results,Tryz.results86,go_sem,World.cell?_setCell_same _ _ _ hRr5]) rfl ⟨⟨is,true,ao,cpo,rfl,hown6.out,HR.out⟩,hB5.setCell (by simp) _⟩
   have HR:Hid (IsRead s.data.toList [] false):=H2.out (fun h=>hf h.2)
   have e2:((ofL (formL is)).toList==s.toList)=false:=by rw [HTS.out,ByteArray.toList_eq];simpa [ofL] using hf
   clear hf he H1 H2
   go_wp2
   refine bodyPost_ret (v:=.tuple #[.agg #[.slice none 0 0],.bool false]) (by simp [results,Tryz.results86,go_sem,World.cell?_setCell_same _ _ _ hRr5]) rfl ⟨⟨[],false,none,0,rfl,World.ownsRow_nil _ _ _ _,HR.out⟩,hB5.setCell (by simp) _⟩
 have hgw:g<wr.heap.size:=hlnr.out.1
 have l0:=past (by exact hgw) (hlnr.out.2 is.length (by omega))
 have hll:(Ls.getD is.length []).length<=300:=by have:=HCS.out is.length;omega
 generalize hln0:Ls.getD is.length []=ln at*
 have HL0:Hid (Ls.getD is.length []=ln):=hln0
 clear hln0
 obtain ⟨hr1,hr2⟩:=rest_small ln
 go_wp2_with fail
 refine (c80' ln _ (by omega)).mono ?_
 rintro e w2 ⟨⟨gw,cpw,rfl,hgw2,hws⟩,hb2⟩
 have hb2':Below (wr.heap.size+1) (wr.alloc (.cells #[.int .i64 0,.string ⟨#[]⟩,.int .i64 0] 183)) w2:=by have h:=hb2;simp at h;exact h
 have hbr2:Below wr.heap.size wr w2:=((Below.refl _ _).alloc (Nat.le_refl _) _).trans (hb2'.mono (by omega))
 have hz2':wr.heap.size+1<=w2.heap.size:=by have:=hb2'.size;simpa using this
 have M0:Hid (Mid wr.heap.size w2 w2 0 ⟨#[]⟩ 0):=⟨But.refl _ _,(hb2'.block _ (by omega)).trans (alloc_new rfl _)⟩
 have hgw3:wr.heap.size+1<=gw:=by simpa using hgw2
 have hwc:w2.cell? ⟨gw,0,none⟩=some (.string (ofL (wordOf ln))):=hws.2 0 (by simp)
 have hwl:gw<w2.heap.size:=hws.1
 have HT2:Hid (w2.heap[w.heap.size+1]?=some (.cells #[v] 150 (0,0))):=(hbr2.block _ (by omega)).trans hT.out
 have hown2:w2.ownsRow w1.heap.size 183 3 v is.length (insCells is):=ownsRow_below hown hbr2
 have hneX:Hid (v.ownBlock≠some wr.heap.size):=fun e=>by have:=(hown.lt _ e).2;omega
 have HL2:Hid (LinesAt w2 g Ls):=lines_below hlnr.out hbr2
 have hbx2:Below (w.heap.size+1) (w.alloc (.cells #[.slice none 0 0] 150)) w2:=hbx.trans (hbr2.mono (by omega))
 clear hb2 hb2' hws hgw2 l0 hT hown hlnr hbx hb hbr2
 go_wp2_with fail
 generalize hX:wr.heap.size=X at*
 clear hX
 go_loopw [10] (fun p wq=>∃ (q:Nat) (o:Int),1<=q/\q<=12/\p=.int .i64 q/\Hid (Mid X w2 wq o ⟨#[]⟩ 0)/\Hid (OpTo ln q o)) (fun p _=>12 - (intOf p).toNat)
 case atStart=>exact ⟨1,0,by omega,by omega,rfl,M0,.inl ⟨rfl,fun p h1 h2=>by omega⟩⟩
 obtain ⟨q,o,hq1,hq2,rfl,hmid,hopt⟩:=hrel
 have hwcq:wr.cell? ⟨gw,0,none⟩=some (.string (ofL (wordOf ln))):=(hmid.out.but.cell (p:=⟨gw,0,none⟩) hwl (by show gw≠X;omega)).trans hwc
 have hwlq:gw<wr.heap.size:=Nat.lt_of_lt_of_le hwl hmid.out.but.size
 by_cases hq:q<=11
 · by_cases hw:word q=wordOf ln
   · have e1:((wordA q).toList==(ofL (wordOf ln)).toList)=true:=by rw [wordA_ofL,hw];simp
     have HO:Hid (OpTo ln (q+1) q):=opTo_yes hopt.out hq1 hw
     clear hw
     go_wp2_with fail
     go_region_with (go_at_call 118;refine (c118 _ _).mono ?_;rintro e wz ⟨rfl,hbz⟩;have hwz:wz.cell? ⟨gw,0,none⟩=some (.string (ofL (wordOf ln))):=(hbz.cell (p:=⟨gw,0,none⟩) hwlq).trans hwcq;have MZ:Hid (Mid X w2 wz o ⟨#[]⟩ 0):=hmid.out.below (Below.trans ((Below.refl _ _).drew) hbz);have c0:=MZ.out.cells.1.1;have f0:=MZ.out.cells.2.1)
     all_goals go_wp2
     all_goals go_roundw
     all_goals first
      | exact ⟨q+1,q,by omega,by omega,by go_num,MZ.out.set0 _,HO⟩
      | (simp [intOf];omega)
   have e1:((wordA q).toList==(ofL (wordOf ln)).toList)=false:=by
    rw [wordA_ofL,ByteArray.toList_eq,ByteArray.toList_eq]
    simpa [ofL] using hw
   have HO:Hid (OpTo ln (q+1) o):=opTo_no hopt.out hw
   clear hw
   go_wp2_with fail
   go_region_with (go_at_call 118;refine (c118 _ _).mono ?_;rintro e wz ⟨rfl,hbz⟩;have hwz:wz.cell? ⟨gw,0,none⟩=some (.string (ofL (wordOf ln))):=(hbz.cell (p:=⟨gw,0,none⟩) hwlq).trans hwcq;have MZ:Hid (Mid X w2 wz o ⟨#[]⟩ 0):=hmid.out.below (Below.trans ((Below.refl _ _).drew) hbz))
   all_goals go_wp2
   all_goals go_roundw
   all_goals first
    | exact ⟨q+1,o,by omega,by omega,by go_num,MZ,HO⟩
    | (simp [intOf];omega)
 obtain rfl:q=12:=by omega
 have HO:Hid (OpOf ln o):=opTo_end hopt.out
 clear hwcq
 obtain ⟨⟨m0,m1,m2⟩,n0,n1,n2⟩:=hmid.out.cells
 go_wp2_with fail
 refine (c119 o _).mono ?_
 rintro e w5 ⟨rfl,hw5⟩
 obtain rfl:=hw5.symm
 cases hO:usesTo o <;> cases hX:usesTx o
 · have MZ:=hmid
   have HPP:Hid (Parsed ln ⟨o,⟨#[]⟩,0⟩):=parsed_00 HO.out hO hX
   clear hO hX
   have hTz:(wr).heap[w.heap.size+1]?=some (.cells #[v] 150 (0,0)):=(MZ.out.but.block _ (by omega) (by omega)).trans HT2.out
   have HTz:Hid ((wr).heap[w.heap.size+1]?=some (.cells #[v] 150 (0,0))):=hTz
   have tc:(wr).cell? ⟨w.heap.size+1,0,none⟩=some v:=by rw [Lib.cell_of_heap hTz];rfl
   have tf:(wr).frozen? ⟨w.heap.size+1,0,none⟩=false:=Lib.frozen_of_heap hTz 0
   have hownz:(wr).ownsRow w1.heap.size 183 3 v is.length (insCells is):=owns_but hown2 MZ.out.but hneX.out
   have HLz:Hid (LinesAt (wr) g Ls):=lines_but HL2.out MZ.out.but (by omega)
   have hbz':Below (w.heap.size+1) (w.alloc (.cells #[.slice none 0 0] 150)) (wr):=hbx2.trans (MZ.out.but.below (by omega) (by omega))
   have hzz:w2.heap.size<=wr.heap.size:=by have:=MZ.out.but.size;simpa using this
   obtain ⟨⟨r0,r1,r2⟩,_,_,_⟩:=MZ.out.cells
   have HP:Hid (Sofar s.data.toList (is++[(⟨o,⟨#[]⟩,0⟩:I3)]) (is.length+1)):=sofar_step hso.out (by rw [HLs.out];exact hlt) (by rw [HLs.out,HL0.out];exact HPP.out)
   have HSm:Hid (∀ j,((is++[(⟨o,⟨#[]⟩,0⟩:I3)]).getD j i3z).tx.size<=1048700):=small_snoc htx.out (by show ByteArray.size _<=1048700;exact Nat.zero_le _)
   clear hTz
   go_wp2_with (at_builtin;refine wpList_append_own _ rfl _ _ 148 rfl w1.heap.size 183 i0 (.agg #[.int .i64 0,.string ⟨#[]⟩,.int .i64 0]) 3 32 underlying148 hi hz0 hz1 hz2 rfl (by decide) _ _ _ rfl (hownz.alloc _) ⟨wr.heap.size,0,none⟩ 1 1 [_,_,_] rfl rfl (row3g (by simp) _ _ _ _) (by intro u hu;simp at hu;rcases hu with rfl | rfl | rfl <;> rfl) (by unfold maxLen;omega) (by omega) (by simp;omega) ?_;intro v' w6 hown6 hgrow _;have HB6:Hid (w6.heap[w.heap.size+1]?=some (.cells #[v] 150 (0,0))):=app_keeps (v:=v) (by rw [Below.heap_alloc _ _ _ (blk_lt HTz.out)];exact HTz.out) (fun e=>by have:=(hownz.lt _ e).1;omega) hgrow;have HL6:Hid (LinesAt w6 g Ls):=lines_grown (lines_below HLz.out ((Below.refl _ _).alloc (Nat.le_refl _) _)) hgrow (fun e=>by have:=(hownz.lt _ e.symm).1;omega);have HG:Hid (Below (w.heap.size+1) (w.alloc (.cells #[.slice none 0 0] 150)) w6):=(hbz'.alloc (by first | omega | (simp;omega)) _).grown hgrow (by simp;omega) (fun k hk=>by have:=(hownz.lt k hk).1;omega);have hz6:wr.heap.size+1<=w6.heap.size:=(by have:=hgrow.size;simp at this;omega);obtain ⟨ao,cpo,rfl⟩:=row_form3 hown6;have d1:w6.cell? ⟨w.heap.size+1,0,none⟩=some v:=(by rw [Lib.cell_of_heap HB6.out];rfl);have f1:w6.frozen? ⟨w.heap.size+1,0,none⟩=false:=Lib.frozen_of_heap HB6.out 0;clear hgrow)
   go_roundw
   case rel=>
    refine ⟨is.length+1,is++[(⟨o,⟨#[]⟩,0⟩:I3)],.slice ao (is.length+1) cpo,by omega,by go_num,by simp,HP,HSm,?_,?_,lines_but HL6.out ((But.refl (w.heap.size+1) w6).setCell 0 _) (by omega),HG.out.setCell (by simp) _,by simp;omega⟩
    · exact heap_setCell_same w6 (w.heap.size+1) 0 _ _ _ HB6.out
    rw [insCells_snoc,List.length_append]
    exact ownsRow_setCell_below hown6 (by show w.heap.size+1<w1.heap.size;omega) _
   case measure=>simp [intOf];omega
 · have HPQ:Hid (∀ t,(∀ q,restOf ln=quoteL q->t=q)->Parsed ln ⟨o,ofL t,0⟩):=fun t ht=>parsed_01 HO.out hO hX ht
   clear hO hX
   go_wp2_with fail
   refine (c81' (restOf ln) _ (by omega)).mono ?_
   rintro e w8 ⟨⟨t,rfl,htl,htq⟩,hb8⟩
   have HPP:Hid (Parsed ln ⟨o,ofL t,0⟩):=HPQ.out t htq
   have M8:Hid (Mid X w2 w8 o ⟨#[]⟩ 0):=hmid.out.below hb8
   clear htq HPQ hb8 m0 m1 m2 n0 n1 n2
   obtain ⟨⟨m0,m1,m2⟩,n0,n1,n2⟩:=M8.out.cells
   have MZ:Hid (Mid X w2 (w8.setCell ⟨X,1,none⟩ (.string (ofL t))) o (ofL t) 0):=M8.out.set1 _
   have hTz:(w8.setCell ⟨X,1,none⟩ (.string (ofL t))).heap[w.heap.size+1]?=some (.cells #[v] 150 (0,0)):=(MZ.out.but.block _ (by omega) (by omega)).trans HT2.out
   have HTz:Hid ((w8.setCell ⟨X,1,none⟩ (.string (ofL t))).heap[w.heap.size+1]?=some (.cells #[v] 150 (0,0))):=hTz
   have tc:(w8.setCell ⟨X,1,none⟩ (.string (ofL t))).cell? ⟨w.heap.size+1,0,none⟩=some v:=by rw [Lib.cell_of_heap hTz];rfl
   have tf:(w8.setCell ⟨X,1,none⟩ (.string (ofL t))).frozen? ⟨w.heap.size+1,0,none⟩=false:=Lib.frozen_of_heap hTz 0
   have hownz:(w8.setCell ⟨X,1,none⟩ (.string (ofL t))).ownsRow w1.heap.size 183 3 v is.length (insCells is):=owns_but hown2 MZ.out.but hneX.out
   have HLz:Hid (LinesAt (w8.setCell ⟨X,1,none⟩ (.string (ofL t))) g Ls):=lines_but HL2.out MZ.out.but (by omega)
   have hbz':Below (w.heap.size+1) (w.alloc (.cells #[.slice none 0 0] 150)) (w8.setCell ⟨X,1,none⟩ (.string (ofL t))):=hbx2.trans (MZ.out.but.below (by omega) (by omega))
   have hzz:w2.heap.size<=w8.heap.size:=by have:=MZ.out.but.size;simpa using this
   obtain ⟨⟨r0,r1,r2⟩,_,_,_⟩:=MZ.out.cells
   have HP:Hid (Sofar s.data.toList (is++[(⟨o,(ofL t),0⟩:I3)]) (is.length+1)):=sofar_step hso.out (by rw [HLs.out];exact hlt) (by rw [HLs.out,HL0.out];exact HPP.out)
   have HSm:Hid (∀ j,((is++[(⟨o,(ofL t),0⟩:I3)]).getD j i3z).tx.size<=1048700):=small_snoc htx.out (by show ByteArray.size _<=1048700;rw [ofL_size];omega)
   clear hTz
   go_wp2_with (at_builtin;refine wpList_append_own _ rfl _ _ 148 rfl w1.heap.size 183 i0 (.agg #[.int .i64 0,.string ⟨#[]⟩,.int .i64 0]) 3 32 underlying148 hi hz0 hz1 hz2 rfl (by decide) _ _ _ rfl (hownz.alloc _) ⟨w8.heap.size,0,none⟩ 1 1 [_,_,_] rfl rfl (row3g (by simp) _ _ _ _) (by intro u hu;simp at hu;rcases hu with rfl | rfl | rfl <;> rfl) (by unfold maxLen;omega) (by omega) (by simp;omega) ?_;intro v' w6 hown6 hgrow _;have HB6:Hid (w6.heap[w.heap.size+1]?=some (.cells #[v] 150 (0,0))):=app_keeps (v:=v) (by rw [Below.heap_alloc _ _ _ (blk_lt HTz.out)];exact HTz.out) (fun e=>by have:=(hownz.lt _ e).1;omega) hgrow;have HL6:Hid (LinesAt w6 g Ls):=lines_grown (lines_below HLz.out ((Below.refl _ _).alloc (Nat.le_refl _) _)) hgrow (fun e=>by have:=(hownz.lt _ e.symm).1;omega);have HG:Hid (Below (w.heap.size+1) (w.alloc (.cells #[.slice none 0 0] 150)) w6):=(hbz'.alloc (by first | omega | (simp;omega)) _).grown hgrow (by simp;omega) (fun k hk=>by have:=(hownz.lt k hk).1;omega);have hz6:w8.heap.size+1<=w6.heap.size:=(by have:=hgrow.size;simp at this;omega);obtain ⟨ao,cpo,rfl⟩:=row_form3 hown6;have d1:w6.cell? ⟨w.heap.size+1,0,none⟩=some v:=(by rw [Lib.cell_of_heap HB6.out];rfl);have f1:w6.frozen? ⟨w.heap.size+1,0,none⟩=false:=Lib.frozen_of_heap HB6.out 0;clear hgrow)
   go_roundw
   case rel=>
    refine ⟨is.length+1,is++[(⟨o,(ofL t),0⟩:I3)],.slice ao (is.length+1) cpo,by omega,by go_num,by simp,HP,HSm,?_,?_,lines_but HL6.out ((But.refl (w.heap.size+1) w6).setCell 0 _) (by omega),HG.out.setCell (by simp) _,by simp;omega⟩
    · exact heap_setCell_same w6 (w.heap.size+1) 0 _ _ _ HB6.out
    rw [insCells_snoc,List.length_append]
    exact ownsRow_setCell_below hown6 (by show w.heap.size+1<w1.heap.size;omega) _
   case measure=>simp [intOf];omega
 · have HPP:Hid (Parsed ln ⟨o,⟨#[]⟩,n29 (wordOf (restOf ln))⟩):=parsed_10 HO.out hO hX
   clear hO hX
   go_wp2_with fail
   refine (c80' (restOf ln) _ (by omega)).mono ?_
   rintro e w7 ⟨⟨gn,cpn,rfl,hgn,hns⟩,hb7⟩
   have nsc:w7.cell? ⟨gn,0,none⟩=some (.string (ofL (wordOf (restOf ln)))):=hns.2 0 (by simp)
   have hr3:=rest_small (restOf ln)
   have M7:Hid (Mid X w2 w7 o ⟨#[]⟩ 0):=hmid.out.below hb7
   clear hns hgn hb7 m0 m1 m2 n0 n1 n2
   go_wp2_with fail
   refine (c120' (wordOf (restOf ln)) _ (by omega)).mono ?_
   rintro e w8 ⟨rfl,hb8⟩
   have M8:Hid (Mid X w2 w8 o ⟨#[]⟩ 0):=M7.out.below hb8
   clear hb8 nsc M7
   obtain ⟨⟨m0,m1,m2⟩,n0,n1,n2⟩:=M8.out.cells
   have MZ:Hid (Mid X w2 (w8.setCell ⟨X,2,none⟩ (.int .i64 (n29 (wordOf (restOf ln))))) o ⟨#[]⟩ (n29 (wordOf (restOf ln)))):=M8.out.set2 _
   have hTz:(w8.setCell ⟨X,2,none⟩ (.int .i64 (n29 (wordOf (restOf ln))))).heap[w.heap.size+1]?=some (.cells #[v] 150 (0,0)):=(MZ.out.but.block _ (by omega) (by omega)).trans HT2.out
   have HTz:Hid ((w8.setCell ⟨X,2,none⟩ (.int .i64 (n29 (wordOf (restOf ln))))).heap[w.heap.size+1]?=some (.cells #[v] 150 (0,0))):=hTz
   have tc:(w8.setCell ⟨X,2,none⟩ (.int .i64 (n29 (wordOf (restOf ln))))).cell? ⟨w.heap.size+1,0,none⟩=some v:=by rw [Lib.cell_of_heap hTz];rfl
   have tf:(w8.setCell ⟨X,2,none⟩ (.int .i64 (n29 (wordOf (restOf ln))))).frozen? ⟨w.heap.size+1,0,none⟩=false:=Lib.frozen_of_heap hTz 0
   have hownz:(w8.setCell ⟨X,2,none⟩ (.int .i64 (n29 (wordOf (restOf ln))))).ownsRow w1.heap.size 183 3 v is.length (insCells is):=owns_but hown2 MZ.out.but hneX.out
   have HLz:Hid (LinesAt (w8.setCell ⟨X,2,none⟩ (.int .i64 (n29 (wordOf (restOf ln))))) g Ls):=lines_but HL2.out MZ.out.but (by omega)
   have hbz':Below (w.heap.size+1) (w.alloc (.cells #[.slice none 0 0] 150)) (w8.setCell ⟨X,2,none⟩ (.int .i64 (n29 (wordOf (restOf ln))))):=hbx2.trans (MZ.out.but.below (by omega) (by omega))
   have hzz:w2.heap.size<=w8.heap.size:=by have:=MZ.out.but.size;simpa using this
   obtain ⟨⟨r0,r1,r2⟩,_,_,_⟩:=MZ.out.cells
   have HP:Hid (Sofar s.data.toList (is++[(⟨o,⟨#[]⟩,(n29 (wordOf (restOf ln)))⟩:I3)]) (is.length+1)):=sofar_step hso.out (by rw [HLs.out];exact hlt) (by rw [HLs.out,HL0.out];exact HPP.out)
   have HSm:Hid (∀ j,((is++[(⟨o,⟨#[]⟩,(n29 (wordOf (restOf ln)))⟩:I3)]).getD j i3z).tx.size<=1048700):=small_snoc htx.out (by show ByteArray.size _<=1048700;exact Nat.zero_le _)
   clear hTz
   go_wp2_with (at_builtin;refine wpList_append_own _ rfl _ _ 148 rfl w1.heap.size 183 i0 (.agg #[.int .i64 0,.string ⟨#[]⟩,.int .i64 0]) 3 32 underlying148 hi hz0 hz1 hz2 rfl (by decide) _ _ _ rfl (hownz.alloc _) ⟨w8.heap.size,0,none⟩ 1 1 [_,_,_] rfl rfl (row3g (by simp) _ _ _ _) (by intro u hu;simp at hu;rcases hu with rfl | rfl | rfl <;> rfl) (by unfold maxLen;omega) (by omega) (by simp;omega) ?_;intro v' w6 hown6 hgrow _;have HB6:Hid (w6.heap[w.heap.size+1]?=some (.cells #[v] 150 (0,0))):=app_keeps (v:=v) (by rw [Below.heap_alloc _ _ _ (blk_lt HTz.out)];exact HTz.out) (fun e=>by have:=(hownz.lt _ e).1;omega) hgrow;have HL6:Hid (LinesAt w6 g Ls):=lines_grown (lines_below HLz.out ((Below.refl _ _).alloc (Nat.le_refl _) _)) hgrow (fun e=>by have:=(hownz.lt _ e.symm).1;omega);have HG:Hid (Below (w.heap.size+1) (w.alloc (.cells #[.slice none 0 0] 150)) w6):=(hbz'.alloc (by first | omega | (simp;omega)) _).grown hgrow (by simp;omega) (fun k hk=>by have:=(hownz.lt k hk).1;omega);have hz6:w8.heap.size+1<=w6.heap.size:=(by have:=hgrow.size;simp at this;omega);obtain ⟨ao,cpo,rfl⟩:=row_form3 hown6;have d1:w6.cell? ⟨w.heap.size+1,0,none⟩=some v:=(by rw [Lib.cell_of_heap HB6.out];rfl);have f1:w6.frozen? ⟨w.heap.size+1,0,none⟩=false:=Lib.frozen_of_heap HB6.out 0;clear hgrow)
   go_roundw
   case rel=>
    refine ⟨is.length+1,is++[(⟨o,⟨#[]⟩,(n29 (wordOf (restOf ln)))⟩:I3)],.slice ao (is.length+1) cpo,by omega,by go_num,by simp,HP,HSm,?_,?_,lines_but HL6.out ((But.refl (w.heap.size+1) w6).setCell 0 _) (by omega),HG.out.setCell (by simp) _,by simp;omega⟩
    · exact heap_setCell_same w6 (w.heap.size+1) 0 _ _ _ HB6.out
    rw [insCells_snoc,List.length_append]
    exact ownsRow_setCell_below hown6 (by show w.heap.size+1<w1.heap.size;omega) _
   case measure=>simp [intOf];omega
 have HPQ:Hid (∀ t,(∀ q,restOf (restOf ln)=quoteL q->t=q)->Parsed ln ⟨o,ofL t,n29 (wordOf (restOf ln))⟩):=fun t ht=>parsed_11 HO.out hO hX ht
 clear hO hX
 go_wp2_with fail
 refine (c80' (restOf ln) _ (by omega)).mono ?_
 rintro e w7 ⟨⟨gn,cpn,rfl,hgn,hns⟩,hb7⟩
 have nsc:w7.cell? ⟨gn,0,none⟩=some (.string (ofL (wordOf (restOf ln)))):=hns.2 0 (by simp)
 have hr3:=rest_small (restOf ln)
 have M7:Hid (Mid X w2 w7 o ⟨#[]⟩ 0):=hmid.out.below hb7
 clear hns hgn hb7 m0 m1 m2 n0 n1 n2
 go_wp2_with fail
 refine (c120' (wordOf (restOf ln)) _ (by omega)).mono ?_
 rintro e w8 ⟨rfl,hb8⟩
 have M8:Hid (Mid X w2 w8 o ⟨#[]⟩ 0):=M7.out.below hb8
 clear hb8 nsc M7
 obtain ⟨⟨m0,m1,m2⟩,n0,n1,n2⟩:=M8.out.cells
 have M9:Hid (Mid X w2 (w8.setCell ⟨X,2,none⟩ (.int .i64 (n29 (wordOf (restOf ln))))) o ⟨#[]⟩ (n29 (wordOf (restOf ln)))):=M8.out.set2 _
 go_wp2_with fail
 refine (c81' (restOf (restOf ln)) _ (by omega)).mono ?_
 rintro e w9 ⟨⟨t,rfl,htl,htq⟩,hb9⟩
 have HPP:Hid (Parsed ln ⟨o,ofL t,n29 (wordOf (restOf ln))⟩):=HPQ.out t htq
 have M10:Hid (Mid X w2 w9 o ⟨#[]⟩ (n29 (wordOf (restOf ln)))):=M9.out.below hb9
 clear htq HPQ hb9 m0 m1 m2 n0 n1 n2 M8 M9
 generalize n29 (wordOf (restOf ln))=N at*
 obtain ⟨⟨m0,m1,m2⟩,n0,n1,n2⟩:=M10.out.cells
 have MZ:Hid (Mid X w2 (w9.setCell ⟨X,1,none⟩ (.string (ofL t))) o (ofL t) N):=M10.out.set1 _
 have hTz:(w9.setCell ⟨X,1,none⟩ (.string (ofL t))).heap[w.heap.size+1]?=some (.cells #[v] 150 (0,0)):=(MZ.out.but.block _ (by omega) (by omega)).trans HT2.out
 have HTz:Hid ((w9.setCell ⟨X,1,none⟩ (.string (ofL t))).heap[w.heap.size+1]?=some (.cells #[v] 150 (0,0))):=hTz
 have tc:(w9.setCell ⟨X,1,none⟩ (.string (ofL t))).cell? ⟨w.heap.size+1,0,none⟩=some v:=by rw [Lib.cell_of_heap hTz];rfl
 have tf:(w9.setCell ⟨X,1,none⟩ (.string (ofL t))).frozen? ⟨w.heap.size+1,0,none⟩=false:=Lib.frozen_of_heap hTz 0
 have hownz:(w9.setCell ⟨X,1,none⟩ (.string (ofL t))).ownsRow w1.heap.size 183 3 v is.length (insCells is):=owns_but hown2 MZ.out.but hneX.out
 have HLz:Hid (LinesAt (w9.setCell ⟨X,1,none⟩ (.string (ofL t))) g Ls):=lines_but HL2.out MZ.out.but (by omega)
 have hbz':Below (w.heap.size+1) (w.alloc (.cells #[.slice none 0 0] 150)) (w9.setCell ⟨X,1,none⟩ (.string (ofL t))):=hbx2.trans (MZ.out.but.below (by omega) (by omega))
 have hzz:w2.heap.size<=w9.heap.size:=by have:=MZ.out.but.size;simpa using this
 obtain ⟨⟨r0,r1,r2⟩,_,_,_⟩:=MZ.out.cells
 have HP:Hid (Sofar s.data.toList (is++[(⟨o,(ofL t),N⟩:I3)]) (is.length+1)):=sofar_step hso.out (by rw [HLs.out];exact hlt) (by rw [HLs.out,HL0.out];exact HPP.out)
 have HSm:Hid (∀ j,((is++[(⟨o,(ofL t),N⟩:I3)]).getD j i3z).tx.size<=1048700):=small_snoc htx.out (by show ByteArray.size _<=1048700;rw [ofL_size];omega)
 clear hTz
 go_wp2_with (at_builtin;refine wpList_append_own _ rfl _ _ 148 rfl w1.heap.size 183 i0 (.agg #[.int .i64 0,.string ⟨#[]⟩,.int .i64 0]) 3 32 underlying148 hi hz0 hz1 hz2 rfl (by decide) _ _ _ rfl (hownz.alloc _) ⟨w9.heap.size,0,none⟩ 1 1 [_,_,_] rfl rfl (row3g (by simp) _ _ _ _) (by intro u hu;simp at hu;rcases hu with rfl | rfl | rfl <;> rfl) (by unfold maxLen;omega) (by omega) (by simp;omega) ?_;intro v' w6 hown6 hgrow _;have HB6:Hid (w6.heap[w.heap.size+1]?=some (.cells #[v] 150 (0,0))):=app_keeps (v:=v) (by rw [Below.heap_alloc _ _ _ (blk_lt HTz.out)];exact HTz.out) (fun e=>by have:=(hownz.lt _ e).1;omega) hgrow;have HL6:Hid (LinesAt w6 g Ls):=lines_grown (lines_below HLz.out ((Below.refl _ _).alloc (Nat.le_refl _) _)) hgrow (fun e=>by have:=(hownz.lt _ e.symm).1;omega);have HG:Hid (Below (w.heap.size+1) (w.alloc (.cells #[.slice none 0 0] 150)) w6):=(hbz'.alloc (by first | omega | (simp;omega)) _).grown hgrow (by simp;omega) (fun k hk=>by have:=(hownz.lt k hk).1;omega);have hz6:w9.heap.size+1<=w6.heap.size:=(by have:=hgrow.size;simp at this;omega);obtain ⟨ao,cpo,rfl⟩:=row_form3 hown6;have d1:w6.cell? ⟨w.heap.size+1,0,none⟩=some v:=(by rw [Lib.cell_of_heap HB6.out];rfl);have f1:w6.frozen? ⟨w.heap.size+1,0,none⟩=false:=Lib.frozen_of_heap HB6.out 0;clear hgrow)
 go_roundw
 case rel=>
  refine ⟨is.length+1,is++[(⟨o,(ofL t),N⟩:I3)],.slice ao (is.length+1) cpo,by omega,by go_num,by simp,HP,HSm,?_,?_,lines_but HL6.out ((But.refl (w.heap.size+1) w6).setCell 0 _) (by omega),HG.out.setCell (by simp) _,by simp;omega⟩
  · exact heap_setCell_same w6 (w.heap.size+1) 0 _ _ _ HB6.out
  rw [insCells_snoc,List.length_append]
  exact ownsRow_setCell_below hown6 (by show w.heap.size+1<w1.heap.size;omega) _
 case measure=>simp [intOf];omega
