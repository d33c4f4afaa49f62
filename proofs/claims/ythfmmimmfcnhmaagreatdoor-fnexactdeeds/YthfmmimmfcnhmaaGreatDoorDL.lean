import Derived.Test.YthfmmimmfcnhmaaGreatDoorZ50
import Derived.Test.YthfmmimmfcnhmaaGreatDoorDH
import Derived.RangeFuncNested
import Derived.RangeFuncBound
import Derived.RangeFuncCalls
import Derived.RangeFuncLeaves
import Derived.TacticsInMore
import Derived.OwnWalkIn
set_option linter.unusedVariables false
set_option maxHeartbeats 8000000
set_option maxRecDepth 100000
namespace Go.Proofs.YthfmmimmfcnhmaaGreatDoor
open Proofs.Tryz
open Go.RowKit
open G (IsPT)
open G.T (F2 f2z treeOk FilesAt)
theorem Shp.same {f:Fx} {g:Gh} {w w':World} (h:Shp f g w) (hq:g.q=[]) (hb:Below f.base f.w0 w') (hk:∀ k o,g.ow k=some o->w'.heap[k]?=w.heap[k]?):Shp f g w' where
 bl:=hb
 oge:=h.oge
 kb:=(hk _ _ h.okb).trans h.kb
 okb:=h.okb
 mr:=mp_keep h.mr (hk _ _ h.omr)
 ar:=h.ar
 omr:=h.omr
 mw:=mp_keep h.mw (hk _ _ h.omw)
 aw:=h.aw
 omw:=h.omw
 pl:=ownsRow_keep h.pl fun k e=>hk k _ (h.opl k e)
 opl:=h.opl
 rd:=h.rd.keep fun k e _=>hk k _ (h.ord k e)
 ord:=h.ord
 its:=fun it hi=>by rw [hq] at hi;cases hi
 ru:=fun i x e=>(h.ru i x e).keep fun k hk'=>hk k _ (h.oru i x e k hk')
 oru:=h.oru
 wr:=fun i x e=>ownsRow_keep (h.wr i x e) fun k hk'=>hk k _ (h.owr i x e k hk')
 owr:=h.owr
 wlt:=h.wlt
 key:=h.key
 only:=h.only
 kw:=h.kw
 kwo:=h.kwo
 inj:=h.inj
 qlt:=h.qlt
theorem Lgc.deed {E:Env} (hE:EnvOk E) {g:Gh} (h:Lgc E g none) (hq:g.q=[]) {i:Nat} {x:Ru} (hi:g.rs[i]?=some x):IsDd E x.k.m.nm ⟨x.k.m.nm,true,x.k.m,x.ls,x.r,x.wt⟩:=by
 have hpn:=(hE.made x.k.m.nm).2 ⟨x.k.m,h.mem i x hi,rfl⟩
 rcases h.looks hE hq hi with ⟨hne,_⟩ | ⟨m,q1,q2,q3,q4⟩
 · exact absurd hpn hne
 obtain rfl:=hE.one _ _ q1 (h.mem i x hi) q2
 refine .inr ⟨x.k.m,x.ls,q1,rfl,q3,q4,?_⟩
 cases hs:x.sta with
 | act=>have:=(h.act i x hi).1 hs;cases this
 | que=>have:=(h.que i x hi).1 hs;rw [hq] at this;cases this
 | fin=>
  obtain ⟨⟨p1,p2⟩,p3⟩:=h.fin i x hi hs
  rw [if_pos p1,if_pos p1,p2,p3]
 | wai j=>
  obtain ⟨p1,p3⟩:=h.non i x hi (by rw [hs];simp)
  obtain ⟨⟨_,p2⟩,_⟩:=h.wai i x j hi hs
  rw [if_neg (by rw [p1];simp),if_neg (by rw [p1];simp),p2,p3]
theorem row_src {w u:World} {base:Nat} {v:Value} {ls:List M.L4} (h:w.ownsRow base 98 4 v ls.length (lkCells ls)) (hb:Below w.heap.size w u):Src u v 4 ls.length (lkCells ls):=by
 obtain ⟨a,c,h1,h2⟩:=row_lks h
 have h3:=M.lks_below h2 hb
 cases a with
 | none=>
  have:ls=[]:=by
   rcases h3 with h3 | ⟨b,off,h,_⟩
   · exact h3
   cases h
  rw [h1,this]
  exact .inl ⟨⟨c,rfl⟩,rfl,rfl⟩
 | some ad=>exact .inr ⟨ad,c,h1,lkCells_len _,lks_cellsAt h3⟩
theorem c48 (base:Nat) (v:Value) (ls:List M.L4) (w:World) (h:w.ownsRow base 98 4 v ls.length (lkCells ls)) (hl:ls.length<=1000):
 Calls prog 48 #[v] w fun e w'=>∃ v',e=.returned v'/\w'.ownsRow w.heap.size 98 4 v' ls.length (lkCells ls)/\Below w.heap.size w w':=by
 have H:=hidI h
 rcases h.2 with ⟨hv,h0⟩ | ⟨g,cap,cur,hv,_⟩
 · subst hv
   have hls:ls=[]:=List.length_eq_zero_iff.1 h0
   subst hls
   clear h
   have hnil:∀ u,(binOp .eql 51 (.slice none 0 0) (.slice none 0 0)).run prog u=.ok (.bool true) u:=fun u=>by kernel_rfl
   go_enter func48,ntmps48
   go_wp2
   go_ret
   exact ⟨_,rfl,World.ownsRow_nil _ _ _ _,Below.refl _ _⟩
 subst hv
 have hal:Below w.heap.size w (w.alloc (.cells #[] 98)):=(Below.refl _ _).alloc (Nat.le_refl _) _
 have HSR:=hidI (row_src h hal)
 have HRM:Hid ((w.alloc (.cells #[] 98)).ownsRow w.heap.size 98 4 (.slice (some ⟨w.heap.size,0,none⟩) 0 0) 0 []):=hidI (World.ownsRow_made w #[] 0 (Nat.le_refl _) (Nat.zero_le _) rfl)
 have HON:=hidI (lkCells_one ls)
 have hbs:w.heap.size<=(w.alloc (.cells #[] 98)).heap.size:=by simp
 have hnil:∀ u,(binOp .eql 51 (.slice (some ⟨g,0,none⟩) ls.length cap) (.slice none 0 0)).run prog u=.ok (.bool false) u:=fun u=>by kernel_rfl
 clear h
 go_enter func48,ntmps48
 go_wp2_with (refine wl_app rfl _ _ 51 rfl w.heap.size 98 4 underlying51 inf98 (by decide) (.slice (some ⟨w.heap.size,0,none⟩) 0 0) 0 [] rfl HRM.out _ ls.length (lkCells ls) rfl HSR.out HON.out (by omega) hbs ?_;intro v' w2 O2 g2 at2;have HO2:=hidI O2;have HG2:=hidI g2;clear O2 g2 at2)
 go_ret
 refine ⟨_,rfl,by have:=HO2.out;rw [Nat.zero_add,List.nil_append] at this;exact this,?_⟩
 exact ⟨HG2.out.os.trans hal.os,HG2.out.tape.trans hal.tape,HG2.out.output.trans hal.output,Nat.le_trans hal.size HG2.out.size,fun k hk=>(HG2.out.block k (by simp;omega) (fun e=>by have:k=w.heap.size:=Option.some.inj e;omega)).trans (hal.block k hk)⟩
theorem c23 (f:Fx) (E:Env) (hf:Fok f E) (g:Gh) (nm:ByteArray) (w:World) (hs:Shp f g w) (hl:Lgc E g none) (hq:g.q=[]) (hn:nameOk nm.data.toList=true):
 Calls prog 23 #[pt f.kb,.string nm] w fun e w'=>∃ (d:Dd) (la:Option Addr) (c:Nat),e=.returned (.tuple #[.agg (De.vs ⟨d,.slice la d.ls.length c⟩).toArray,.string d.wt])/\IsDd E nm d/\w'.ownsRow w.heap.size 98 4 (.slice la d.ls.length c) d.ls.length (lkCells d.ls)/\Below f.base w w'/\∃ g',Shp f g' w'/\Lgc E g' none/\g'.q=[]/\(∀ k,k<w.heap.size->g.ow k=none->w'.heap[k]?=w.heap[k]?/\g'.ow k=none)/\∀ k,(Value.slice la d.ls.length c).ownBlock=some k->g'.ow k=none:=by
 have hEE:EnvOk E:=by rw [hf.hE];exact envOk hf.tr hf.pt
 obtain ⟨pa,pc,hpv,_⟩:=row_mks hs.pl
 have HPV:=hidI hpv
 have HMK:Hid (∀ u {g'},Shp f g' u->G.MksAt u pa f.ms):=fun u g' h=>by
  obtain ⟨a,c,h1,h2⟩:=row_mks h.pl
  rw [hpv] at h1
  have:pa=a:=by injection h1
  rw [this];exact h2
 have HS0:=hidI hs
 have HL0:=hidI hl
 have HQ0:=hidI hq
 have HF:=hidI hf
 have HN:=hidI hn
 have HEE:=hidI hEE
 obtain ⟨w1,hw1⟩:∃ u:World,u=w.alloc (.cells #[.string ⟨#[]⟩,.bool false,.string ⟨#[]⟩,.string ⟨#[]⟩,.string ⟨#[]⟩,.slice none 0 0,.int .i64 0,.string ⟨#[]⟩] 55):=⟨_,rfl⟩
 have HW1:=hidI hw1
 have hb1:Below w.heap.size w w1:=by rw [hw1];exact (Below.refl _ _).alloc (Nat.le_refl _) _
 have C4:Hid (Cl w1 w.heap.size 55 [.string ⟨#[]⟩,.bool false,.string ⟨#[]⟩,.string ⟨#[]⟩,.string ⟨#[]⟩,.slice none 0 0,.int .i64 0,.string ⟨#[]⟩]):=by show Cl _ _ _ _;rw [hw1];exact cl_new w _ 55
 have HS1:Hid (Shp f { g with ow:=extN g.ow w.heap.size } w1):=hidI ((hs.extN w.heap.size (Nat.le_refl _)).grow hb1)
 have HB1:Hid (Below f.base w w1):=hidI (hb1.mono hs.sz)
 have HQ1:=hidI hb1
 have d1:w1.cell? ⟨f.kb,1,none⟩=some (.slice pa f.ms.length pc):=(HS1.out.kb.cell 1).trans (congrArg some hpv)
 clear hs hl hq hf hn hEE hpv hw1 hb1
 go_enter func23,ntmps23
 rw [show pt f.kb=.pointer (some ⟨f.kb,0,none⟩) from rfl]
 go_upto_region 1 with fail
 rw [<- HW1.out]
 clear HW1
 go_wp2_with fail
 refine (G.c45 pa pc f.ms nm w1 (Nat.le_trans (isPT_30 HF.out.pt) (by decide)) (HMK.out w1 HS1.out) (G.isPT_asc HF.out.pt)).mono ?_
 rintro e w2 ⟨⟨y,mth,rfl,hy⟩,hb2⟩
 have HS2:=hidI (HS1.out.grow hb2)
 have C42:=hidI (C4.out.below hb2 C4.out.lt)
 have HB2:Hid (Below f.base w w2):=hidI (HB1.out.trans (hb2.mono (by have:=HB1.out.size;have:=HS0.out.sz;omega)))
 have HQ2:=hidI (HQ1.out.trans (hb2.mono HQ1.out.size))
 clear d1 hb2 C4 HS1 HB1
 go_upto_region 2 with fail
 obtain ⟨w3,hw3⟩:∃ u:World,u=w2.alloc (.cells #[.string y.nm,.string y.tl,.string y.ar] 50):=⟨_,rfl⟩
 rw [<- hw3]
 have hb3:Below w2.heap.size w2 w3:=by rw [hw3];exact (Below.refl _ _).alloc (Nat.le_refl _) _
 have C6:Hid (Cl w3 w2.heap.size 50 [.string y.nm,.string y.tl,.string y.ar]):=by show Cl _ _ _ _;rw [hw3];exact cl_new w2 _ 50
 have HS3:=hidI (HS2.out.grow hb3)
 have C43:=hidI (C42.out.below hb3 C42.out.lt)
 have HB3:Hid (Below f.base w w3):=hidI (HB2.out.trans (hb3.mono (by have:=HB2.out.size;have:=HS0.out.sz;omega)))
 have HQ3:=hidI (HQ2.out.trans (hb3.mono HQ2.out.size))
 clear hw3 hb3 C42 HS2 HB2
 cases mth
 · have HY:Hid (G.FreeM f.ms nm):=by
    rcases hy with ⟨h,_⟩ | ⟨_,h⟩
    · cases h
    exact h
   clear hy
   have d0:w3.cell? ⟨f.kb,0,none⟩=some (.slice f.ta f.fs.length f.tc):=HS3.out.kb.cell 0
   go_wp2_with fail
   refine (G.c46 f.ta f.tc f.fs nm w3 HF.out.tr.1 (G.T.files_below HF.out.fa (HS3.out.bl.mono (Nat.le_refl _))) (G.T.asc_of HF.out.tr)).mono ?_
   rintro e w4 ⟨h43,hb4⟩
   obtain ⟨r,he,hpl⟩:=un_plain HF.out.tr h43 HY.out
   obtain ⟨rc,rt⟩:=r
   have he':e=.returned (.agg #[.int .i64 rc,.string rt]):=he
   subst he'
   have HWF:Hid (IsDd E nm ⟨nm,false,m3z,[],⟨rc,rt⟩,⟨#[]⟩⟩):=hidI (.inl ⟨⟨rc,rt⟩,by rw [HF.out.hE];exact hpl,rfl⟩)
   have HQ4:=hidI (HQ3.out.trans (hb4.mono HQ3.out.size))
   have HS4:=hidI (HS3.out.grow hb4)
   have C44:=hidI (C43.out.below hb4 C43.out.lt)
   have HB4:Hid (Below f.base w w4):=hidI (HB3.out.trans (hb4.mono (by have:=HB3.out.size;have:=HS0.out.sz;omega)))
   clear h43 he hpl d0 hb4
   go_wp2_with (refine wl_stN rfl 55 _ _ rfl (B:=w.heap.size) (j:=0) rfl (vs:=[.string nm,.bool false,.string ⟨#[]⟩,.string ⟨#[]⟩,.string ⟨#[]⟩,.slice none 0 0,.int .i64 rc,.string rt]) rfl C44.out (by simp) (by intro v hv;simp at hv;rcases hv with rfl | rfl | rfl | rfl | rfl | rfl <;> rfl) (by kernel_rfl) ?_;intro w5 hc5 ho5;have HC5:=hidI hc5;have HO5:=hidI ho5;clear hc5 ho5)
   refine bodyPost_ret (results_blk_tmp (P:=prog) (ty:=55) rfl _ _ w.heap.size _ _ rfl HC5.out.blk underlying55 rfl (by kernel_rfl)) rfl ?_
   have hkk:∀ k,k<w.heap.size->w5.heap[k]?=w.heap[k]?:=fun k hk=>(HO5.out.block k (by omega)).trans (HQ4.out.block k hk)
   exact ⟨⟨nm,false,m3z,[],⟨rc,rt⟩,⟨#[]⟩⟩,none,0,rfl,HWF.out,World.ownsRow_nil _ _ _ _,HB4.out.trans (HO5.out.below HS0.out.sz),_,HS4.out.same HQ0.out (HS4.out.bl.trans (HO5.out.below HS0.out.sz)) (fun k o e=>HO5.out.block k (fun c=>by have e:extN g.ow w.heap.size k=some o:=e;rw [c,extN_ge (Nat.le_refl _)] at e;cases e)),⟨HL0.out.mem,HL0.out.inj,HL0.out.his,HL0.out.fin,HL0.out.non,HL0.out.act,HL0.out.que,HL0.out.qnd,HL0.out.qgo,HL0.out.qre,HL0.out.wai,HL0.out.wls⟩,HQ0.out,fun k hk e=>⟨hkk k hk,by show extN g.ow w.heap.size k=none;rw [extN_lt hk];exact e⟩,fun k e=>by cases e⟩
 obtain ⟨iy,hiy,hgy,hny⟩:∃ i,i<f.ms.length/\f.ms.getD i m3z=y/\y.nm=nm:=by
  rcases hy with ⟨_,h⟩ | ⟨h,_⟩
  · exact h
  cases h
 clear hy
 have hmE:toM y∈E.ms:=by rw [HF.out.hE];exact mem_toM.2 ⟨iy,hiy,by rw [hgy]⟩
 have HME:=hidI hmE
 have HNY:Hid (y.nm=nm):=hny
 have hms:E.ms.length<=30:=by rw [HF.out.hE];show (f.ms.map toM).length<=30;rw [List.length_map];exact isPT_30 HF.out.pt
 have hrl:=HL0.out.len hms
 have HC:=hidI (c47 f E HF.out { g with ow:=extN g.ow w.heap.size } (toM y) w3 HS3.out (by show y.nm.size<=20;rw [HNY.out];exact name_le HN.out) (by show g.rs.length<=1000;omega) (by show g.q.length<=1000;rw [HQ0.out];simp))
 have e0:w3.cell? ⟨w2.heap.size,0,none⟩=some (.string y.nm):=C6.out.cell 0
 have e1:w3.cell? ⟨w2.heap.size,1,none⟩=some (.string y.tl):=C6.out.cell 1
 have e2:w3.cell? ⟨w2.heap.size,2,none⟩=some (.string y.ar):=C6.out.cell 2
 clear hiy hgy hny hmE hrl
 go_wp2_with fail
 refine HC.out.mono ?_
 rintro e w4 ⟨g',i,x,rfl,hs4,hbeg,hgi,hb4,hkp4⟩
 rw [show pt x.k.B=.pointer (some ⟨x.k.B,0,none⟩) from rfl]
 have hL0':Lgc E { g with ow:=extN g.ow w.heap.size } none:=⟨HL0.out.mem,HL0.out.inj,HL0.out.his,HL0.out.fin,HL0.out.non,HL0.out.act,HL0.out.que,HL0.out.qnd,HL0.out.qgo,HL0.out.qre,HL0.out.wai,HL0.out.wls⟩
 obtain ⟨hL4,hxm,hext,hptl⟩:=hL0'.beg HEE.out HS0.out.qlt HME.out hbeg hgi (fun i' e=>by cases e) hms
 have HL4:=hidI hL4
 have HS4:=hidI hs4
 have HXM:=hidI hxm
 have HGI:=hidI hgi
 have HB4:=hidI (HB3.out.trans hb4)
 have hk4:=hkp4 w.heap.size C43.out.lt (extN_ge (Nat.le_refl _))
 have C44:Hid (Cl w4 w.heap.size 55 [.string ⟨#[]⟩,.bool false,.string ⟨#[]⟩,.string ⟨#[]⟩,.string ⟨#[]⟩,.slice none 0 0,.int .i64 0,.string ⟨#[]⟩]):=hidI (hk4.1.trans C43.out)
 have HOW:Hid (g'.ow w.heap.size=none):=hidI hk4.2
 have HKP:Hid (∀ k,k<w.heap.size->g.ow k=none->w4.heap[k]?=w.heap[k]?/\g'.ow k=none):=fun k hk e=>by
  have h:=hkp4 k (by have:=HQ3.out.size;omega) (by show extN g.ow w.heap.size k=none;rw [extN_lt hk];exact e)
  exact ⟨h.1.trans (HQ3.out.block k hk),h.2⟩
 clear hL0' hL4 hs4 hbeg hgi hb4 hkp4 hk4 hxm hext hptl HC e0 e1 e2 hms C43 HS3 HB3 C6
 go_wp2_with fail
 go_loopg [] (ptl g') (fun k wr=>∃ g2:Gh,Hid (Shp f g2 wr)/\Hid (Lgc E g2 none)/\Hid (∃ y2,g2.rs[i]?=some y2/\y2.k=x.k)/\Hid (Cl wr w.heap.size 55 [.string ⟨#[]⟩,.bool false,.string ⟨#[]⟩,.string ⟨#[]⟩,.string ⟨#[]⟩,.slice none 0 0,.int .i64 0,.string ⟨#[]⟩])/\Hid (g2.ow w.heap.size=none)/\Hid (∀ k,k<w.heap.size->g.ow k=none->wr.heap[k]?=w.heap[k]?/\g2.ow k=none)/\Hid (Below f.base w wr)/\k=ptl g2)
 case atStart=>exact ⟨g',HS4.out,HL4.out,⟨x,HGI.out,rfl⟩,C44.out,HOW.out,HKP.out,HB4.out,rfl⟩
 clear HKP
 obtain ⟨g2,HS,HL,HXI,HC4,HO4,HKP,HBW,rfl⟩:=hrel
 cases hq2:g2.q with
 | nil=>
  have hrd:=HS.out.rd
  rw [hq2] at hrd
  obtain ⟨ra,rc,hrv⟩:=hrd.form
  have d4:wr.cell? ⟨f.kb,4,none⟩=some (.slice ra 0 rc):=(HS.out.kb.cell 4).trans (congrArg some hrv)
  obtain ⟨y2,hy2,hyk⟩:=HXI.out
  have HQ2:=hidI hq2
  have hyn:y2.k.m.nm=nm:=by rw [hyk,HXM.out];exact HNY.out
  have HWNT:Hid (IsDd E nm ⟨nm,true,y2.k.m,y2.ls,y2.r,y2.wt⟩):=by
   have:=HL.out.deed HEE.out hq2 hy2
   rw [hyn] at this
   exact this
  have HYN:=hidI hyn
  clear hyn
  have hru:=HS.out.ru i y2 hy2
  have hls:y2.ls.length<=15:=(hist_ok HEE.out (HEE.out.ms _ (HL.out.mem _ y2 hy2)) (HL.out.his _ y2 hy2)).1
  rw [<- hyk]
  have HBB:=hidI hru.hB
  have HLK:=hidI hru.lk
  obtain ⟨la,lc,hlv,_⟩:=row_lks hru.lk
  have HLV:=hidI hlv
  clear hlv
  have hnB2:y2.k.B≠w.heap.size:=by
   have h1:=HS.out.oru i y2 hy2 y2.k.B (.inl (by simp))
   intro e
   rw [e,HO4.out] at h1
   cases h1
  clear hru hrd hrv hq2 hyk
  go_upto_region 9 with fail
  go_upto_region 10 with (refine wl_val rfl (ex_ldN 55 _ rfl (B:=y2.k.B) (j:=0) (cs:=[.string y2.k.m.nm,.bool true,.string y2.k.m.nm,.string y2.k.m.tl,.string y2.k.m.ar,.slice la y2.ls.length lc,.int .i64 y2.r.code,.string y2.r.tx]) rfl (fun q v e=>by
   have hq:q<8:=(List.getElem?_eq_some_iff.1 e).1
   rw [Nat.zero_add,HBB.out.cell q]
   have e2:y2.cells=[.string y2.k.m.nm,.bool true,.string y2.k.m.nm,.string y2.k.m.tl,.string y2.k.m.ar,.slice la y2.ls.length lc,.int .i64 y2.r.code,.string y2.r.tx]++[.string y2.wt]:=by unfold Ru.cells;rw [HLV.out];rfl
   rw [e2,List.getElem?_append_left hq]
   exact e) underlying55 rfl (by kernel_rfl)) ?_)
  obtain ⟨w5,hw5⟩:∃ u:World,u=wr.alloc (.cells #[.string y2.k.m.nm,.bool true,.string y2.k.m.nm,.string y2.k.m.tl,.string y2.k.m.ar,.slice la y2.ls.length lc,.int .i64 y2.r.code,.string y2.r.tx] 55):=⟨_,rfl⟩
  rw [<- hw5]
  have hb5:Below wr.heap.size wr w5:=by rw [hw5];exact (Below.refl _ _).alloc (Nat.le_refl _) _
  have C10:Hid (Cl w5 wr.heap.size 55 [.string y2.k.m.nm,.bool true,.string y2.k.m.nm,.string y2.k.m.tl,.string y2.k.m.ar,.slice la y2.ls.length lc,.int .i64 y2.r.code,.string y2.r.tx]):=by show Cl _ _ _ _;rw [hw5];exact cl_new wr _ 55
  have HLK5:=hidI (ownsRow_below HLK.out hb5)
  have HBB5:=hidI (HBB.out.below hb5 HBB.out.lt)
  have C45:=hidI (HC4.out.below hb5 HC4.out.lt)
  have HBL5:=hidI (HBW.out.trans (hb5.mono (by have:=HBW.out.size;have:=HS0.out.sz;omega)))
  have d5:w5.cell? ⟨wr.heap.size,5,none⟩=some (.slice la y2.ls.length lc):=C10.out.cell 5
  have hzr:w.heap.size<wr.heap.size:=HC4.out.lt
  have hzB:y2.k.B<wr.heap.size:=HBB.out.lt
  rw [HLV.out] at HLK5
  have HK5:=hidI hb5
  clear hw5 hb5 HBB HLK d4
  go_wp2_with fail
  refine (c48 f.base _ y2.ls w5 HLK5.out (by omega)).mono ?_
  rintro e w6 ⟨v',rfl,hr6,hb6⟩
  obtain ⟨ca,cc,hv',_⟩:=row_lks hr6
  subst hv'
  have HR6:=hidI hr6
  have hz5:w5.heap.size<=w6.heap.size:=hb6.size
  have hz5':wr.heap.size<w5.heap.size:=C10.out.lt
  have C106:=hidI (C10.out.below hb6 C10.out.lt)
  have HB6:=hidI (HBB5.out.below hb6 HBB5.out.lt)
  have C46:=hidI (C45.out.below hb6 C45.out.lt)
  have HBL6:=hidI (HBL5.out.trans (hb6.mono (by have:=HBL5.out.size;have:=HS0.out.sz;omega)))
  have q5:w6.cell? ⟨wr.heap.size,5,none⟩=some (.slice la y2.ls.length lc):=C106.out.cell 5
  have f5:=C106.out.opn 5
  have HK6:=hidI hb6
  clear d5 hr6 hb6 C10 HBB5 C45 HBL5 HLK5
  go_upto_region 11 with fail
  have hon:=on_set w6 wr.heap.size 5 (.slice ca y2.ls.length cc)
  have C10:Hid (Cl (w6.setCell ⟨wr.heap.size,5,none⟩ (.slice ca y2.ls.length cc)) wr.heap.size 55 [.string y2.k.m.nm,.bool true,.string y2.k.m.nm,.string y2.k.m.tl,.string y2.k.m.ar,.slice ca y2.ls.length cc,.int .i64 y2.r.code,.string y2.r.tx]):=hidI (C106.out.set 5 (.slice ca y2.ls.length cc))
  generalize (w6.setCell ⟨wr.heap.size,5,none⟩ (.slice ca y2.ls.length cc))=w7 at*
  have HK7:=hidI hon
  have HR7:=hidI (ownsRow_keep HR6.out fun k e=>hon.block k (by have:=(HR6.out.lt k e).1;omega))
  have HB6:=hidI (HB6.out.on hon (by omega))
  have C47:=hidI (C46.out.on hon (by omega))
  have HBL7:=hidI (HBL6.out.trans (hon.below (by have:=HBW.out.size;have:=HS0.out.sz;omega)))
  clear q5 f5 hon C106 C46 HBL6
  refine wp_region_held_drew (S:=fun u=>Cl u wr.heap.size 55 [.string y2.k.m.nm,.bool true,.string y2.k.m.nm,.string y2.k.m.tl,.string y2.k.m.ar,.slice ca y2.ls.length cc,.int .i64 y2.r.code,.string y2.r.tx]/\Cl u y2.k.B 95 y2.cells) (by kernel_rfl) ?_ (fun hH=>?_)
  · exact ⟨C10.out,HB6.out⟩
  obtain ⟨y0,hy0⟩:∃ x:World,x=w7.drew:=⟨_,rfl⟩
  rw [<- hy0] at hH ⊢
  have hby:Below w7.heap.size w7 y0:=by rw [hy0];exact (Below.refl _ w7).drew
  have HKy:=hidI hby
  have HRy:=hidI (ownsRow_below HR7.out hby)
  have C4y:=hidI (C47.out.below hby C47.out.lt)
  have C10y:=hidI (C10.out.below hby C10.out.lt)
  have HBy:=hidI (HB6.out.below hby HB6.out.lt)
  have HBLy:=hidI (HBL7.out.trans (hby.mono (by have:=HBL7.out.size;have:=HS0.out.sz;omega)))
  clear hy0 hby
  refine tk (i:=0) (oi:=⟨some 63,.load 55 (.tmp 10),55,_,_,none⟩) (v:=.agg #[.string y2.k.m.nm,.bool true,.string y2.k.m.nm,.string y2.k.m.tl,.string y2.k.m.ar,.slice ca y2.ls.length cc,.int .i64 y2.r.code,.string y2.r.tx]) rfl (by kernel_rfl) rfl ?e hH ?_
  case e=>intro wq hSw;exact ex_ldN 55 _ rfl (B:=wr.heap.size) (j:=0) (cs:=[.string y2.k.m.nm,.bool true,.string y2.k.m.nm,.string y2.k.m.tl,.string y2.k.m.ar,.slice ca y2.ls.length cc,.int .i64 y2.r.code,.string y2.r.tx]) rfl (fun q v e=>by rw [Nat.zero_add];exact (hSw.1.cell q).trans e) underlying55 rfl (by kernel_rfl)
  refine tq 1 hH ?_
  refine tq 2 hH ?_
  refine tq 3 hH ?_
  refine tq 4 hH ?_ (v:=?_) (hv:=?e)
  case e=>intro wq hSw;(try dsimp only at hSw);have d8:wq.cell? ⟨y2.k.B,8,none⟩=some (.string y2.wt):=hSw.2.cell 8;go_simp;try with_reducible rfl
  try simp only [qq]
  refine rq 5 (fun K hK=>?_)
  refine st_stN rfl 55 _ _ rfl (B:=w.heap.size) (j:=0) rfl (vs:=[.string y2.k.m.nm,.bool true,.string y2.k.m.nm,.string y2.k.m.tl,.string y2.k.m.ar,.slice ca y2.ls.length cc,.int .i64 y2.r.code,.string y2.r.tx]) rfl C4y.out (by simp) (by intro v hv;simp at hv;rcases hv with rfl | rfl | rfl | rfl | rfl | rfl | rfl | rfl <;> rfl) (by kernel_rfl) ?_
  intro w8 hc8 ho8
  have HK8:=hidI ho8
  have HR8:=hidI (ownsRow_keep HRy.out fun k e=>ho8.block k (by have:=(HRy.out.lt k e).1;omega))
  have C108:=hidI (C10y.out.on ho8 (by omega))
  have HB8:=hidI (HBy.out.on ho8 hnB2)
  have HC8:=hidI hc8
  have HBL8:=hidI (HBLy.out.trans (ho8.below HS0.out.sz))
  clear hc8 ho8 hH
  refine hK.out _ _ ?_ (fun hH=>?_)
  · exact ⟨C108.out,HB8.out⟩
  clear hK K
  refine tq 6 hH ?_
  try simp only [qq]
  refine wpAnyH_done (by kernel_rfl) ?_ _
  clear hH
  go_wp2
  refine bodyPost_ret (results_blk_tmp (P:=prog) (ty:=55) rfl _ _ w.heap.size _ _ rfl HC8.out.blk underlying55 rfl (by kernel_rfl)) rfl ?_
  have hkk:∀ k,k<wr.heap.size->k≠w.heap.size->w8.heap[k]?=wr.heap[k]?:=fun k hk hne=>by
   have h7:w7.heap.size=w6.heap.size:=HK7.out.size
   exact (HK8.out.block k hne).trans ((HKy.out.block k (by omega)).trans ((HK7.out.block k (by omega)).trans ((HK6.out.block k (by omega)).trans (HK5.out.block k hk))))
  exact ⟨⟨nm,true,y2.k.m,y2.ls,y2.r,y2.wt⟩,ca,cc,by rw [<- HYN.out];rfl,HWNT.out,owns_mono HR8.out (by omega),HBL8.out,{ g2 with ow:=extN g2.ow wr.heap.size },(HS.out.extN wr.heap.size (Nat.le_refl _)).same HQ2.out (HS0.out.bl.trans HBL8.out) (fun k o e=>by
   have hk:k<wr.heap.size:=Classical.byContradiction fun c=>by
    have e:extN g2.ow wr.heap.size k=some o:=e
    rw [extN_ge (by omega)] at e;cases e
   have e:extN g2.ow wr.heap.size k=some o:=e
   rw [extN_lt hk] at e
   exact hkk k hk (fun c=>by rw [c,HO4.out] at e;cases e)),⟨HL.out.mem,HL.out.inj,HL.out.his,HL.out.fin,HL.out.non,HL.out.act,HL.out.que,HL.out.qnd,HL.out.qgo,HL.out.qre,HL.out.wai,HL.out.wls⟩,HQ2.out,fun k hk e=>⟨(hkk k (by omega) (by omega)).trans (HKP.out k hk e).1,by show extN g2.ow wr.heap.size k=none;rw [extN_lt (by omega)];exact (HKP.out k hk e).2⟩,fun k e=>extN_ge (by have:=(HR8.out.lt k e).1;omega)⟩
 | cons it q'=>
  have hrd:=HS.out.rd
  rw [hq2,List.map_cons] at hrd
  obtain ⟨ga,off,cap,hrv,hcell,hcap,hrow⟩:=hrd.head
  rw [List.length_map] at hrv hrow
  have hit:=HS.out.qlt it (by rw [hq2];exact List.mem_cons_self ..)
  obtain ⟨xi,hxi⟩:∃ xi,g2.rs[it.i]?=some xi:=⟨_,List.getElem?_eq_getElem hit⟩
  obtain ⟨hLp,hov,hgo,hre⟩:=HL.out.pop hq2 hxi
  obtain ⟨na,HNA⟩:∃ na,Hid ((if cap=1 then some (⟨ga,off,none⟩:Addr) else some ⟨ga,off+1,none⟩)=na):=⟨_,rfl⟩
  rw [HNA.out] at hrow
  have hsl:∀ u,(Instr.slice 86 (.slice (some ⟨ga,off,none⟩) (q'.length+1) cap) (some (.int .i64 1)) none none).run prog u=.ok (.slice na q'.length (cap - 1)) u:=fun u=>by
   rw [run_slice_l u 86 (some ⟨ga,off,none⟩) (q'.length+1) cap (by kernel_rfl) .i64 1 (by decide) (by omega),show prog.elem 86=1 from by kernel_rfl,Tryz.sizeOf1]
   rw [<- HNA.out]
   by_cases hc1:cap=1
   · simp [sliced,hc1]
   simp [sliced,hc1,Addr.add_lit]
  have hna:∀ k,(Value.slice na q'.length (cap - 1)).ownBlock=some k->k=ga:=fun k e=>by
   rw [<- HNA.out] at e
   split at e <;> exact (Option.some.inj e).symm
  have hga:g2.ow ga=some .rd:=HS.out.ord ga (by rw [hrv];rfl)
  have hgl:ga≠f.kb:=fun e=>by rw [e,HS.out.okb] at hga;cases hga
  have d4:wr.cell? ⟨f.kb,4,none⟩=some (.slice (some ⟨ga,off,none⟩) (q'.length+1) cap):=(HS.out.kb.cell 4).trans (congrArg some hrv)
  have f4:=HS.out.kb.opn 4
  have hkx:g2.ks.getD it.i rkz=xi.k:=by
   show (g2.rs.map (·.k)).getD it.i rkz=xi.k
   rw [List.getD_eq_getElem?_getD,List.getElem?_map,hxi]
   rfl
  have hits:=HS.out.its
  have HROW:=hidI hrow
  have HNB:=hidI hna
  have HXI2:=hidI hxi
  have HLP:=hidI hLp
  have HQ2:=hidI hq2
  have HGA:=hidI hga
  have hpp:=psum_set (x':={ xi with sta:=.act,st:=true }) hxi
  have hlsl:xi.ls.length<=15:=(hist_ok HEE.out (HEE.out.ms _ (HL.out.mem _ xi hxi)) (HL.out.his _ xi hxi)).1
  have HPP:Hid (ptl { g2 with rv:=.slice na q'.length (cap - 1),rs:=g2.rs.set it.i { xi with sta:=.act,st:=true },q:=q' }<=ptl g2/\(xi.st=false->ptl { g2 with rv:=.slice na q'.length (cap - 1),rs:=g2.rs.set it.i { xi with sta:=.act,st:=true },q:=q' }<ptl g2)):=by
   have h1:pwr { xi with sta:=.act,st:=true }<=pwr xi:=by unfold pwr;simp;split <;> omega
   refine ⟨?_,fun hst=>?_⟩
   · unfold ptl
     simp only [List.length_set]
     omega
   have h2:pwr { xi with sta:=.act,st:=true }+1=pwr xi:=by unfold pwr;simp [hst];omega
   unfold ptl
   simp only [List.length_set]
   omega
  have HS6:Hid (∀ w5,OnB f.kb wr w5->Cl w5 f.kb 88 (kbCells f (.slice na q'.length (cap - 1)))->Shp f { g2 with rv:=.slice na q'.length (cap - 1),rs:=g2.rs.set it.i { xi with sta:=.act,st:=true },q:=q' } w5):=fun w5 hon hkb=>by
   have h5:=HS.out.rdy (rv':=.slice na q'.length (cap - 1)) (q':=q') (hon.ex (.inl HS.out.okb)) hkb (by
    refine HROW.out.keep fun k e hl=>hon.block k (fun e2=>?_)
    have:=HNB.out k e
    exact hgl (this.symm.trans e2)) (fun k e=>by rw [HNB.out k e];exact HGA.out) (fun jt hj=>by
    obtain ⟨k1,k2⟩:=hits jt (by rw [HQ2.out];exact List.mem_cons_of_mem _ hj)
    refine ⟨?_,k2⟩
    cases jt with
    | go i=>trivial
    | re i r b7 b5=>exact ⟨k1.1.on hon (fun e=>by have:=k2.1;rw [e,HS.out.okb] at this;cases this),k1.2.on hon (fun e=>by have:=k2.2;rw [e,HS.out.okb] at this;cases this)⟩) (fun jt hj=>HS.out.qlt jt (by rw [HQ2.out];exact List.mem_cons_of_mem _ hj))
   have hru:=h5.ru it.i xi HXI2.out
   exact h5.run (x':={ xi with sta:=.act,st:=true }) HXI2.out (Ex.refl _ _) (hru.gh rfl rfl rfl rfl rfl rfl rfl) (fun k hk=>h5.oru it.i xi HXI2.out k (FPx.of (x:=xi) rfl rfl rfl rfl hk)) rfl rfl rfl
  have HKS:=hidI (fun (w5:World) (hon:OnB f.kb wr w5)=>hon)
  have HIT:=hidI (hits it (by rw [HQ2.out];exact List.mem_cons_self ..))
  have hne0:¬ ((q'.length:Int)+1=0):=by omega
  clear hrow hna hrv hLp hq2 hga hpp hits hrd
  cases it with
  | go j=>
   have hst:=hgo j rfl
   have HPP':=hidI (HPP.out.2 hst)
   have hcell':wr.cell? ⟨ga,off,none⟩=some (.func (.func 76) #[] #[.pointer (some ⟨xi.k.c2,0,none⟩),.pointer (some ⟨xi.k.c7,0,none⟩),.pointer (some ⟨xi.k.c51,0,none⟩),.pointer (some ⟨xi.k.c13,0,none⟩)]):=by
    have h1:It.v g2.ks (.go j)=(g2.ks.getD j rkz).be:=rfl
    have h2:g2.ks.getD j rkz=xi.k:=hkx
    rw [hcell,h1,h2]
    rfl
   clear hcell hgo hre hkx hst
   go_upto_region 8 with fail
   have hon:=on_set wr f.kb 4 (.slice na q'.length (cap - 1))
   have hkb5:Cl (wr.setCell ⟨f.kb,4,none⟩ (.slice na q'.length (cap - 1))) f.kb 88 (kbCells f (.slice na q'.length (cap - 1))):=HS.out.kb.set 4 (.slice na q'.length (cap - 1))
   generalize (wr.setCell ⟨f.kb,4,none⟩ (.slice na q'.length (cap - 1)))=w5 at*
   have HSG:=hidI (HS6.out w5 hon hkb5)
   have HLG:Hid (Lgc E { g2 with rv:=.slice na q'.length (cap - 1),rs:=g2.rs.set j { xi with sta:=.act,st:=true },q:=q' } (some j)):=by
    have h:=HLP.out
    exact ⟨h.mem,h.inj,h.his,h.fin,h.non,h.act,h.que,h.qnd,h.qgo,h.qre,h.wai,h.wls⟩
   have hnk:w.heap.size≠f.kb:=by have:=HS0.out.kb.lt;omega
   have HC45:=hidI (HC4.out.on hon hnk)
   have HKON:=hidI hon
   have HZK:Hid (w5.heap.size=wr.heap.size):=hidI hon.size
   have HB5:=hidI (HBW.out.trans (hon.below (by exact HS.out.oge _ _ HS.out.okb)))
   have HCC:=hidI (c76 f E HF.out _ j { xi with sta:=.act,st:=true } w5 HSG.out HLG.out (set_get HXI2.out))
   clear hon hkb5 d4 f4 hcell'
   go_wp2_with fail
   refine HCC.out.mono ?_
   rintro e w6 ⟨rfl,g7,ha⟩
   have HLT:Hid (ptl g7<ptl g2):=by have h1:=ha.ptl;have h2:=HPP'.out;show _<_;omega
   have HS7:=hidI ha.shp
   have HL7:=hidI ha.lgc
   have HX7:Hid (∃ y2,g7.rs[i]?=some y2/\y2.k=x.k):=by
    obtain ⟨y2,h1,h2⟩:=HXI.out
    obtain ⟨y3,h3,h4⟩:∃ y3,(g2.rs.set j { xi with sta:=.act,st:=true })[i]?=some y3/\y3.k=y2.k:=by
     obtain ⟨z,hz,⟨rfl,rfl⟩ | ⟨rfl,_⟩⟩:=set_old (x':={ xi with sta:=.act,st:=true }) HXI2.out h1
     · have:=HXI2.out
       rw [show g2.rs[(_:It).i]?=_ from h1] at this
       obtain rfl:=Option.some.inj this
       exact ⟨_,hz,rfl⟩
     exact ⟨z,hz,rfl⟩
    obtain ⟨y4,h5,h6⟩:=ha.ext i y3 h3
    exact ⟨y4,h5,h6.trans (h4.trans h2)⟩
   have hk7:=ha.kp w.heap.size HC45.out.lt HO4.out
   have HKP7:Hid (∀ k,k<w.heap.size->g.ow k=none->w6.heap[k]?=w.heap[k]?/\g7.ow k=none):=fun k hk e=>by
    obtain ⟨q1,q2⟩:=HKP.out k hk e
    have h:=ha.kp k (by rw [HZK.out];have:=HC4.out.lt;omega) q2
    exact ⟨h.1.trans ((HKON.out.block k (fun c=>by rw [c,HS.out.okb] at q2;cases q2)).trans q1),h.2⟩
   have HC47:=hidI (hk7.1.trans HC45.out)
   have HO47:=hidI hk7.2
   have HB7:=hidI (HB5.out.trans ha.bl)
   clear ha hk7 HCC
   go_wp2
   go_roundg (ptl g7)
   case measure=>exact HLT.out
   case rel=>exact ⟨g7,HS7.out,HL7.out,HX7.out,HC47.out,HO47.out,HKP7.out,HB7.out,rfl⟩
  | re j r b7 b5=>
   have HAN:Hid (Ans E (tn xi.k.m xi.ls) r):=hidI (hre j r b7 b5 rfl)
   have hcell':wr.cell? ⟨ga,off,none⟩=some (.func (.func 108) #[] #[.pointer (some ⟨b7,0,none⟩),.pointer (some ⟨b5,0,none⟩)]):=hcell
   clear hcell hgo hre
   go_upto_region 8 with fail
   have hon:=on_set wr f.kb 4 (.slice na q'.length (cap - 1))
   have hkb5:Cl (wr.setCell ⟨f.kb,4,none⟩ (.slice na q'.length (cap - 1))) f.kb 88 (kbCells f (.slice na q'.length (cap - 1))):=HS.out.kb.set 4 (.slice na q'.length (cap - 1))
   generalize (wr.setCell ⟨f.kb,4,none⟩ (.slice na q'.length (cap - 1)))=w5 at*
   have HSG:=hidI (HS6.out w5 hon hkb5)
   have HLG:Hid (Lgc E { g2 with rv:=.slice na q'.length (cap - 1),rs:=g2.rs.set j { xi with sta:=.act,st:=true },q:=q' } (some j)):=by
    have h:=HLP.out
    exact ⟨h.mem,h.inj,h.his,h.fin,h.non,h.act,h.que,h.qnd,h.qgo,h.qre,h.wai,h.wls⟩
   have hnk:w.heap.size≠f.kb:=by have:=HS0.out.kb.lt;omega
   have HC45:=hidI (HC4.out.on hon hnk)
   have HKON:=hidI hon
   have HZK:Hid (w5.heap.size=wr.heap.size):=hidI hon.size
   have HB5:=hidI (HBW.out.trans (hon.below (by exact HS.out.oge _ _ HS.out.okb)))
   have h75:=HIT.out
   have HCC:=hidI (c108 f E HF.out _ j { xi with sta:=.act,st:=true } r b7 b5 w5 HSG.out HLG.out (set_get HXI2.out) HAN.out (by
    have:=h75.1.1.on hon (fun e=>by have:=h75.2.1;rw [e,HS.out.okb] at this;cases this)
    rw [show g2.ks.getD j rkz=xi.k from hkx] at this
    exact this) (h75.1.2.on hon (fun e=>by have:=h75.2.2;rw [e,HS.out.okb] at this;cases this)))
   clear h75 hkx
   clear hon hkb5 d4 f4 hcell'
   go_wp2_with fail
   refine HCC.out.mono ?_
   rintro e w6 ⟨rfl,g7,ha,hlt7⟩
   have HLT:Hid (ptl g7<ptl g2):=by have h2:=HPP.out.1;show _<_;exact Nat.lt_of_lt_of_le hlt7 h2
   have HS7:=hidI ha.shp
   have HL7:=hidI ha.lgc
   have HX7:Hid (∃ y2,g7.rs[i]?=some y2/\y2.k=x.k):=by
    obtain ⟨y2,h1,h2⟩:=HXI.out
    obtain ⟨y3,h3,h4⟩:∃ y3,(g2.rs.set j { xi with sta:=.act,st:=true })[i]?=some y3/\y3.k=y2.k:=by
     obtain ⟨z,hz,⟨rfl,rfl⟩ | ⟨rfl,_⟩⟩:=set_old (x':={ xi with sta:=.act,st:=true }) HXI2.out h1
     · have:=HXI2.out
       rw [show g2.rs[(_:It).i]?=_ from h1] at this
       obtain rfl:=Option.some.inj this
       exact ⟨_,hz,rfl⟩
     exact ⟨z,hz,rfl⟩
    obtain ⟨y4,h5,h6⟩:=ha.ext i y3 h3
    exact ⟨y4,h5,h6.trans (h4.trans h2)⟩
   have hk7:=ha.kp w.heap.size HC45.out.lt HO4.out
   have HKP7:Hid (∀ k,k<w.heap.size->g.ow k=none->w6.heap[k]?=w.heap[k]?/\g7.ow k=none):=fun k hk e=>by
    obtain ⟨q1,q2⟩:=HKP.out k hk e
    have h:=ha.kp k (by rw [HZK.out];have:=HC4.out.lt;omega) q2
    exact ⟨h.1.trans ((HKON.out.block k (fun c=>by rw [c,HS.out.okb] at q2;cases q2)).trans q1),h.2⟩
   have HC47:=hidI (hk7.1.trans HC45.out)
   have HO47:=hidI hk7.2
   have HB7:=hidI (HB5.out.trans ha.bl)
   clear ha hk7 HCC
   go_wp2
   go_roundg (ptl g7)
   case measure=>exact HLT.out
   case rel=>exact ⟨g7,HS7.out,HL7.out,HX7.out,HC47.out,HO47.out,HKP7.out,HB7.out,rfl⟩
variable {f:Fx} {E:Env} {b2:Nat} {pre:List De} {N:List ByteArray} {v:Value} {W W':World}
structure JOk (f:Fx) (E:Env) (J:List De->Gh->World->Prop):Prop where
 st:∀ pre g W,J pre g W->Shp f g W/\Lgc E g none/\g.q=[]
 mv:∀ pre g W g' W',J pre g W->Shp f g' W'->Lgc E g' none->g'.q=[]->W.heap.size<=W'.heap.size->Below f.base W W'->(∀ k,k<W.heap.size->g.ow k=none->(∀ cur fz,W.heap[k]?≠some (.cells cur 9 fz))->W'.heap[k]?=W.heap[k]?)->(∀ k,k<W.heap.size->g.ow k=none->g'.ow k=none)->J pre g' W'
structure I60 (f:Fx) (J:List De->Gh->World->Prop) (b2:Nat) (pre:List De) (N:List ByteArray) (v:Value) (g:Gh) (W:World):Prop where
 j:J pre g W
 c2:Cl W b2 77 [.func (.func 23) #[.pointer (some ⟨f.kb,0,none⟩)] #[]]
 o2:g.ow b2=none
 rn:W.ownsRow f.base 9 1 v N.length (nmC N)
 on:∀ k,v.ownBlock=some k->g.ow k=none
theorem I60.mv {J:List De->Gh->World->Prop} (hJ:JOk f E J) {g g':Gh} (h:I60 f J b2 pre N v g W) (hs:Shp f g' W') (hl:Lgc E g' none) (hq:g'.q=[]) (hz:W.heap.size<=W'.heap.size) (hb:Below f.base W W') (hk:∀ k,k<W.heap.size->g.ow k=none->W'.heap[k]?=W.heap[k]?/\g'.ow k=none):I60 f J b2 pre N v g' W':=
 ⟨hJ.mv _ _ _ _ _ h.j hs hl hq hz hb (fun k h e _=>(hk k h e).1) (fun k h e=>(hk k h e).2),(hk _ h.c2.lt h.o2).1.trans h.c2,(hk _ h.c2.lt h.o2).2,ownsRow_keep h.rn fun k e=>(hk k (h.rn.lt k e).2 (h.on k e)).1,fun k e=>(hk k (h.rn.lt k e).2 (h.on k e)).2⟩
theorem I60.grow {J:List De->Gh->World->Prop} (hJ:JOk f E J) {g:Gh} (h:I60 f J b2 pre N v g W) (hb:Below W.heap.size W W'):I60 f J b2 pre N v { g with ow:=extN g.ow W.heap.size } W':=by
 obtain ⟨hs,hl,hq⟩:=hJ.st _ _ _ h.j
 exact h.mv hJ ((hs.extN _ (Nat.le_refl _)).grow hb) ⟨hl.mem,hl.inj,hl.his,hl.fin,hl.non,hl.act,hl.que,hl.qnd,hl.qgo,hl.qre,hl.wai,hl.wls⟩ hq hb.size (hb.mono hs.sz) (fun k hk e=>⟨hb.block k hk,by show extN g.ow W.heap.size k=none;rw [extN_lt hk];exact e⟩)
theorem r60 (f:Fx) (E:Env) (hf:Fok f E) (J:List De->Gh->World->Prop) (hJ:JOk f E J) (b2:Nat) (pre:List De) (N:List ByteArray) (nb no vc i:Nat) (n:ByteArray) (g:Gh) (w:World) (u0 u1 u3 u6 u7 u8 u9 u10 u11 u12 u13 u14 u15 u16 u17 u18 u19 u20 u21 u22 u23 u24 u25 u26 u27 u28 u29 u30 u31 u32 u33 u34 u35 u36 u37 u38 u39 u40 u41 u42 u43 u44 u45 u46 u47:Value) {Q:Exit->Act->World->Prop} (hQ:∀ c (a:Act) (d:Option Tmp) (v:Value) w,Q (.panic c) (a.put d v) w->Q (.panic c) a w) (I0:Hid (I60 f J b2 pre N (.slice (some ⟨nb,no,none⟩) N.length vc) g w)) (hi:i<N.length) (hN:N.length<=1000) (HN:Hid (N.getD i ⟨#[]⟩=n)) (hok:nameOk n.data.toList=true)
 (hKK:∀ (t18 t19 t20 t21 t22 t23 t24 t25 t26:Value) (d:Dd) (la:Option Addr) (c B6:Nat) (g':Gh) (w':World),I60 f J b2 pre N (.slice (some ⟨nb,no,none⟩) N.length vc) g' w'->IsDd E n d->w'.ownsRow w.heap.size 98 4 (.slice la d.ls.length c) d.ls.length (lkCells d.ls)->(∀ k,(Value.slice la d.ls.length c).ownBlock=some k->g'.ow k=none)->Cl w' B6 55 (De.vs ⟨d,.slice la d.ls.length c⟩)->g'.ow B6=none->w.heap.size<=w'.heap.size->Below f.base w w'->Q .normal { tmps:=#[u0,u1,.pointer (some ⟨b2,0,none⟩),u3,.slice (some ⟨nb,no,none⟩) N.length vc,.int .i64 (i:Int),.pointer (some ⟨B6,0,none⟩),.string d.wt,u8,u9,u10,u11,u12,u13,u14,u15,u16,u17,t18,t19,t20,t21,t22,t23,t24,t25,t26,u27,u28,u29,u30,u31,u32,u33,u34,u35,u36,u37,u38,u39,u40,u41,u42,u43,u44,u45,u46,u47],defers:=[] } w'):
 (Code.region 4 #[⟨some 19,.load 77 (.tmp 2),77, "l4_want.go:125",#[],none⟩,⟨some 20,.move (.tmp 4),66, "l4_want.go:125",#[],none⟩,⟨some 21,.move (.tmp 5),3, "l4_want.go:125",#[],none⟩,⟨some 22,.indexAddr 66 (.tmp 20) (.tmp 21),0, "l4_want.go:125",#[⟨1,.data⟩,⟨2,.data⟩],none⟩,⟨some 23,.load 9 (.tmp 22),9, "l4_want.go:125",#[⟨3,.data⟩],none⟩,⟨some 24,.call ⟨.value (.tmp 19),#[.tmp 23],#[9]⟩,116, "l4_want.go:125",#[⟨0,.data⟩,⟨4,.data⟩],none⟩,⟨some 18,.move (.tmp 24),116, "l4_want.go:125",#[⟨5,.data⟩],none⟩,⟨some 25,.extract (.tmp 18) 0,55, "l4_want.go:125",#[⟨6,.data⟩],none⟩,⟨some 26,.extract (.tmp 18) 1,9, "l4_want.go:125",#[⟨6,.data⟩,⟨10,.gcOnly .lateStores⟩],none⟩,⟨some 6,.alloc 55,0, "l4_want.go:125",#[],none⟩,⟨none,.store 55 (.tmp 6) (.tmp 25),0, "l4_want.go:125",#[⟨9,.data⟩,⟨7,.data⟩,⟨5,.chain⟩,⟨0,.phase⟩,⟨1,.phase⟩,⟨2,.phase⟩,⟨3,.phase⟩,⟨4,.phase⟩,⟨5,.phase⟩,⟨6,.phase⟩,⟨7,.phase⟩,⟨8,.textOnly .lateStores⟩,⟨9,.phase⟩],none⟩,⟨some 7,.assign (.tmp 26),9, "l4_want.go:125",#[⟨8,.data⟩,⟨10,.chain⟩,⟨0,.phase⟩,⟨1,.phase⟩,⟨2,.phase⟩,⟨3,.phase⟩,⟨4,.phase⟩,⟨5,.phase⟩,⟨6,.phase⟩,⟨7,.phase⟩,⟨8,.phase⟩,⟨9,.phase⟩,⟨10,.phase⟩],none⟩] true).wp Tryz.prog Q { tmps:=#[u0,u1,.pointer (some ⟨b2,0,none⟩),u3,.slice (some ⟨nb,no,none⟩) N.length vc,.int .i64 (i:Int),u6,u7,u8,u9,u10,u11,u12,u13,u14,u15,u16,u17,u18,u19,u20,u21,u22,u23,u24,u25,u26,u27,u28,u29,u30,u31,u32,u33,u34,u35,u36,u37,u38,u39,u40,u41,u42,u43,u44,u45,u46,u47],defers:=[] } w:=by
 refine wp_region_held_drew (S:=fun u=>u.cell? ⟨nb,no+i,none⟩=some (.string n)/\u.cell? ⟨b2,0,none⟩=some (.func (.func 23) #[.pointer (some ⟨f.kb,0,none⟩)] #[])) (by kernel_rfl) ?_ (fun hH=>?_)
 · rw [<- HN.out];exact ⟨(nms_cell I0.out.rn hi).1,I0.out.c2.cell 0⟩
 obtain ⟨x0,hx0⟩:∃ x:World,x=w.drew:=⟨_,rfl⟩
 rw [<- hx0] at hH ⊢
 have Ix0:Hid (I60 f J b2 pre N (.slice (some ⟨nb,no,none⟩) N.length vc) { g with ow:=extN g.ow w.heap.size } x0):=hidI (I0.out.grow hJ (by rw [hx0];exact (Below.refl _ w).drew))
 have zxa:x0.heap.size<=w.heap.size:=by rw [hx0];exact Nat.le_refl _
 have zxb:w.heap.size<=x0.heap.size:=by rw [hx0];exact Nat.le_refl _
 have Lx0:Below f.base w x0:=by rw [hx0];exact (Below.refl _ w).drew
 clear hx0
 refine tq 0 hH ?_ (v:=?_) (hv:=?e)
 case e=>intro wq hSw;(try dsimp only at hSw);obtain ⟨s1,s2⟩:=hSw;go_simp;try with_reducible rfl
 refine tq 1 hH ?_
 refine tq 2 hH ?_
 refine tq 3 hH ?_
 refine tq 4 hH ?_ (v:=?_) (hv:=?e)
 case e=>intro wq hSw;(try dsimp only at hSw);obtain ⟨s1,s2⟩:=hSw;go_simp;try with_reducible rfl
 try simp only [qq]
 refine wpAnyH_ready (rs:=[5,9]) (by kernel_rfl) (by simp) (AllReadyH.cons (o:=⟨some 24,.call ⟨.value (.tmp 19),#[.tmp 23],#[9]⟩,116,_,_,none⟩) rfl (fun K hK=>?_) (AllReadyH.cons (o:=⟨some 6,.alloc 55,0,_,_,none⟩) rfl (fun K hK=>?_) AllReadyH.nil))
 · go_simp
   refine (c23 f E hf { g with ow:=extN g.ow w.heap.size } n x0 (hJ.st _ _ _ Ix0.out.j).1 (hJ.st _ _ _ Ix0.out.j).2.1 (hJ.st _ _ _ Ix0.out.j).2.2 hok).mono ?_
   rintro e x1 ⟨d,la,c,rfl,hd,hr,hb,g1,hs,hl,hq,hk,hv⟩
   have Ix1:=hidI (Ix0.out.mv hJ hs hl hq hb.size hb hk)
   have HR1:=hidI hr
   have HD:=hidI hd
   have HV:=hidI hv
   have L1:Below f.base w x1:=Lx0.trans hb
   have z1:w.heap.size<=x1.heap.size:=Nat.le_trans zxb hb.size
   clear hs hl hq hk hr hd hv hb
   go_simp
   clear hH
   refine hK.out _ _ ?_ (fun hH=>?_)
   · rw [<- HN.out];exact ⟨(nms_cell Ix1.out.rn hi).1,Ix1.out.c2.cell 0⟩
   clear hK K
   refine tq 6 hH ?_
   refine tq 7 hH ?_
   refine tq 8 hH ?_
   try simp only [qq]
   refine rq 9 (fun K hK=>?_)
   go_simp
   obtain ⟨x2,hx2⟩:∃ x:World,x=x1.alloc (.cells #[.string ⟨#[]⟩,.bool false,.string ⟨#[]⟩,.string ⟨#[]⟩,.string ⟨#[]⟩,.slice none 0 0,.int .i64 0,.string ⟨#[]⟩] 55):=⟨_,rfl⟩
   rw [<- hx2]
   have B2:Below x1.heap.size x1 x2:=by rw [hx2];exact (Below.refl _ _).alloc (Nat.le_refl _) _
   have C6:Hid (Cl x2 x1.heap.size 55 [.string ⟨#[]⟩,.bool false,.string ⟨#[]⟩,.string ⟨#[]⟩,.string ⟨#[]⟩,.slice none 0 0,.int .i64 0,.string ⟨#[]⟩]):=by show Cl _ _ _ _;rw [hx2];exact cl_new x1 _ 55
   have Ix2:=hidI (Ix1.out.grow hJ B2)
   clear hx2
   clear hH
   refine hK.out _ _ ?_ (fun hH=>?_)
   · rw [<- HN.out];exact ⟨(nms_cell Ix2.out.rn hi).1,Ix2.out.c2.cell 0⟩
   clear hK K
   try simp only [qq]
   refine rq 10 (fun K hK=>?_)
   refine st_stN rfl 55 _ _ rfl (B:=x1.heap.size) (j:=0) rfl (vs:=(De.vs ⟨d,.slice la d.ls.length c⟩)) rfl C6.out (by simp [De.vs]) (de_one _ rfl) (by kernel_rfl) ?_
   intro x3 hc ho
   have B3:Below x1.heap.size x1 x3:=B2.trans (ho.below (Nat.le_refl _))
   have Ix3:=hidI (Ix1.out.grow hJ B3)
   have C6':Hid (Cl x3 x1.heap.size 55 (De.vs ⟨d,.slice la d.ls.length c⟩)):=hidI hc
   have HR3:=hidI (ownsRow_below HR1.out B3)
   clear hc ho
   clear hH
   refine hK.out _ _ ?_ (fun hH=>?_)
   · rw [<- HN.out];exact ⟨(nms_cell Ix3.out.rn hi).1,Ix3.out.c2.cell 0⟩
   clear hK K
   refine tq 11 hH ?_
   try simp only [qq]
   refine wpAnyH_done (by kernel_rfl) ?_ _
   exact hKK _ _ _ _ _ _ _ _ _ d la c _ _ _ Ix3.out HD.out (owns_mono HR3.out (by omega)) (fun k e=>by show extN g1.ow x1.heap.size k=none;rw [extN_lt (HR1.out.lt k e).2];exact HV.out k e) C6'.out (extN_ge (Nat.le_refl _)) (Nat.le_trans z1 B3.size) (L1.trans (B3.mono (by have:=(hJ.st _ _ _ I0.out.j).1.sz;omega)))
 go_simp
 obtain ⟨x1,hx1⟩:∃ x:World,x=x0.alloc (.cells #[.string ⟨#[]⟩,.bool false,.string ⟨#[]⟩,.string ⟨#[]⟩,.string ⟨#[]⟩,.slice none 0 0,.int .i64 0,.string ⟨#[]⟩] 55):=⟨_,rfl⟩
 rw [<- hx1]
 have B1:Below x0.heap.size x0 x1:=by rw [hx1];exact (Below.refl _ _).alloc (Nat.le_refl _) _
 have C6:Hid (Cl x1 x0.heap.size 55 [.string ⟨#[]⟩,.bool false,.string ⟨#[]⟩,.string ⟨#[]⟩,.string ⟨#[]⟩,.slice none 0 0,.int .i64 0,.string ⟨#[]⟩]):=by show Cl _ _ _ _;rw [hx1];exact cl_new x0 _ 55
 have Ix1:=hidI (Ix0.out.grow hJ B1)
 have hz6:x0.heap.size<x1.heap.size:=C6.out.lt
 clear hx1
 clear hH
 refine hK.out _ _ ?_ (fun hH=>?_)
 · rw [<- HN.out];exact ⟨(nms_cell Ix1.out.rn hi).1,Ix1.out.c2.cell 0⟩
 clear hK K
 try simp only [qq]
 refine rq 5 (fun K hK=>?_)
 go_simp
 refine (c23 f E hf _ n x1 (hJ.st _ _ _ Ix1.out.j).1 (hJ.st _ _ _ Ix1.out.j).2.1 (hJ.st _ _ _ Ix1.out.j).2.2 hok).mono ?_
 rintro e x2 ⟨d,la,c,rfl,hd,hr,hb,g1,hs,hl,hq,hk,hv⟩
 have Ix2:=hidI (Ix1.out.mv hJ hs hl hq hb.size hb hk)
 have h6:=hk x0.heap.size hz6 (extN_ge (Nat.le_refl _))
 have C62:Hid (Cl x2 x0.heap.size 55 [.string ⟨#[]⟩,.bool false,.string ⟨#[]⟩,.string ⟨#[]⟩,.string ⟨#[]⟩,.slice none 0 0,.int .i64 0,.string ⟨#[]⟩]):=hidI (h6.1.trans C6.out)
 have HK0:Hid (∀ k,k<x0.heap.size->extN g.ow w.heap.size k=none->x2.heap[k]?=x0.heap[k]?/\g1.ow k=none):=fun k hk' e=>by
  have h:=hk k (by omega) (by show extN (extN g.ow w.heap.size) x0.heap.size k=none;rw [extN_lt hk'];exact e)
  exact ⟨h.1.trans (B1.block k hk'),h.2⟩
 have HR2:=hidI hr
 have HD:=hidI hd
 have HV:=hidI hv
 have HS:=hidI hs
 have HLL:=hidI hl
 have HQQ:=hidI hq
 have HO6:=hidI h6.2
 have L2:Below f.base w x2:=Lx0.trans ((B1.mono (by have:=(hJ.st _ _ _ Ix0.out.j).1.sz;omega)).trans hb)
 have z2:x1.heap.size<=x2.heap.size:=hb.size
 have HB12:=hidI hb
 clear hs hl hq hk hr hd hv hb h6
 go_simp
 clear hH
 refine hK.out _ _ ?_ (fun hH=>?_)
 · rw [<- HN.out];exact ⟨(nms_cell Ix2.out.rn hi).1,Ix2.out.c2.cell 0⟩
 clear hK K
 refine tq 6 hH ?_
 refine tq 7 hH ?_
 refine tq 8 hH ?_
 try simp only [qq]
 refine rq 10 (fun K hK=>?_)
 refine st_stN rfl 55 _ _ rfl (B:=x0.heap.size) (j:=0) rfl (vs:=(De.vs ⟨d,.slice la d.ls.length c⟩)) rfl C62.out (by simp [De.vs]) (de_one _ rfl) (by kernel_rfl) ?_
 intro x3 hc ho
 have hbb:f.base<=x0.heap.size:=(hJ.st _ _ _ Ix0.out.j).1.sz
 have hbo:Below f.base x2 x3:=ho.below hbb
 have Ix3:Hid (I60 f J b2 pre N (.slice (some ⟨nb,no,none⟩) N.length vc) g1 x3):=hidI (Ix0.out.mv hJ (HS.out.same HQQ.out (HS.out.bl.trans hbo) (fun k o e=>ho.block k (fun c=>by rw [c,HO6.out] at e;cases e))) HLL.out HQQ.out (by rw [ho.size];omega) ((B1.mono hbb).trans (HB12.out.trans hbo)) (fun k hk e=>⟨(ho.block k (by omega)).trans (HK0.out k hk e).1,(HK0.out k hk e).2⟩))
 have C6':Hid (Cl x3 x0.heap.size 55 (De.vs ⟨d,.slice la d.ls.length c⟩)):=hidI hc
 have HR3:Hid (x3.ownsRow w.heap.size 98 4 (.slice la d.ls.length c) d.ls.length (lkCells d.ls)):=hidI (owns_mono (ownsRow_keep HR2.out fun k e=>ho.block k (by have:=(HR2.out.lt k e).1;omega)) (by omega))
 have z3:x3.heap.size=x2.heap.size:=ho.size
 have L3:=L2.trans hbo
 clear hc ho
 clear hH
 refine hK.out _ _ ?_ (fun hH=>?_)
 · rw [<- HN.out];exact ⟨(nms_cell Ix3.out.rn hi).1,Ix3.out.c2.cell 0⟩
 clear hK K
 refine tq 11 hH ?_
 try simp only [qq]
 refine wpAnyH_done (by kernel_rfl) ?_ _
 exact hKK _ _ _ _ _ _ _ _ _ d la c _ _ _ Ix3.out HD.out HR3.out HV.out C6'.out HO6.out (by omega) L3
end Go.Proofs.YthfmmimmfcnhmaaGreatDoor
namespace Go.Proofs.YthfmmimmfcnhmaaGreatDoor
open Go.RowKit
theorem y60 (x:De) (B6 l m:Nat) (w:World) (u1 u2 u3 u4 u5 u7 u8 u9 u10 u11 u12 u13 u14 u15 u16 u17 u18 u19 u20 u21 u22 u23 u24 u25 u26 u27 u28 u29 u30 u31 u32 u33 u34 u35 u36 u37 u38 u39 u40 u41 u42 u43 u44 u45 u46 u47:Value) {Q:Exit->Act->World->Prop} {R:World->Prop} (hc:Cl w B6 55 x.vs) (hY:YieldAt Fence.wide m Tryz.prog l #[.agg x.vs.toArray] w fun e W'=>e=.returned (.bool true)/\R W')
 (hK:∀ (t44 t45 t46:Value) W',R W'->Q .normal { tmps:=#[.func (.yield l) #[] #[],u1,u2,u3,u4,u5,.pointer (some ⟨B6,0,none⟩),u7,u8,u9,u10,u11,u12,u13,u14,u15,u16,u17,u18,u19,u20,u21,u22,u23,u24,u25,u26,u27,u28,u29,u30,u31,u32,u33,u34,u35,u36,u37,u38,u39,u40,u41,u42,u43,t44,t45,t46,.bool false],defers:=[] } W'):
 (Code.region 11 #[⟨some 44,.move (.tmp 0),115, "l4_want.go:131",#[],none⟩,⟨some 45,.load 55 (.tmp 6),55, "l4_want.go:131",#[],none⟩,⟨some 46,.call ⟨.value (.tmp 44),#[.tmp 45],#[55]⟩,4, "l4_want.go:131",#[⟨0,.data⟩,⟨1,.data⟩],none⟩,⟨some 47,.unOp .not 4 (.tmp 46),4, "l4_want.go:131",#[⟨2,.data⟩],none⟩] false).wp Tryz.prog Q { tmps:=#[.func (.yield l) #[] #[],u1,u2,u3,u4,u5,.pointer (some ⟨B6,0,none⟩),u7,u8,u9,u10,u11,u12,u13,u14,u15,u16,u17,u18,u19,u20,u21,u22,u23,u24,u25,u26,u27,u28,u29,u30,u31,u32,u33,u34,u35,u36,u37,u38,u39,u40,u41,u42,u43,u44,u45,u46,u47],defers:=[] } w:=by
 obtain ⟨⟨n,md,⟨m1,m2,m3⟩,ls,⟨rc,rt⟩,wt⟩,lv⟩:=x
 have h0:w.cell? ⟨B6,0,none⟩=some (.string n):=hc.cell 0
 have h1:w.cell? ⟨B6,1,none⟩=some (.bool md):=hc.cell 1
 have h2:w.cell? ⟨B6,2,none⟩=some (.string m1):=hc.cell 2
 have h3:w.cell? ⟨B6,3,none⟩=some (.string m2):=hc.cell 3
 have h4:w.cell? ⟨B6,4,none⟩=some (.string m3):=hc.cell 4
 have h5:w.cell? ⟨B6,5,none⟩=some lv:=hc.cell 5
 have h6:w.cell? ⟨B6,6,none⟩=some (.int .i64 rc):=hc.cell 6
 have h7:w.cell? ⟨B6,7,none⟩=some (.string rt):=hc.cell 7
 obtain ⟨fn,tmps,assign,body,hy,hR⟩:=hY
 rw [show (De.vs ⟨⟨n,md,⟨m1,m2,m3⟩,ls,⟨rc,rt⟩,wt⟩,lv⟩).toArray=#[.string n,.bool md,.string m1,.string m2,.string m3,lv,.int .i64 rc,.string rt] from rfl] at hy
 clear hc
 refine (wpIn_wide (n:=m+1)).1 ?_
 gi_wp2
 refine hR.mono ?_
 rintro e W3 ⟨rfl,hr⟩
 gi_wp2
 exact hr
