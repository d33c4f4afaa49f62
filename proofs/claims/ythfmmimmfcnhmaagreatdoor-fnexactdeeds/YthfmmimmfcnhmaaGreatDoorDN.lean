import Derived.Test.YthfmmimmfcnhmaaGreatDoorDL
set_option linter.unusedVariables false
set_option maxHeartbeats 8000000
set_option maxRecDepth 100000
namespace Go.Proofs.YthfmmimmfcnhmaaGreatDoor
open Proofs.Tryz
open Go.RowKit
def askK (ls:List M.L4) (k:Nat):List ByteArray:=((ls.take k).filter fun x=>!x.has).map (·.nm)
theorem askK_succ {ls:List M.L4} {k:Nat} (h:k<ls.length):askK ls (k+1)=askK ls k++if (ls.getD k M.l4z).has then [] else [(ls.getD k M.l4z).nm]:=by
 unfold askK
 rw [List.take_succ_eq_append_getElem h,List.filter_append,List.map_append]
 congr 1
 simp only [List.getD,List.getElem?_eq_getElem h,Option.getD_some]
 cases hh:ls[k].has <;> simp [hh]
theorem askK_len (ls:List M.L4) (k:Nat):(askK ls k).length<=ls.length:=by
 unfold askK
 rw [List.length_map]
 have h1:=List.length_filter_le (fun x:M.L4=>!x.has) (ls.take k)
 have h2:=List.length_take_le k ls
 have h3:=List.length_take_le' k ls
 omega
theorem nmC_app (l:List ByteArray) (s:ByteArray):nmC (l++[s])=nmC l++[.string s]:=by simp [nmC]
theorem c61 (d:Dd) (la:Option Addr) (lc:Nat) (w:World) (hl:d.ls.length<=15) (hat:M.LksAt w la d.ls):
 Calls prog 61 #[.agg (De.vs ⟨d,.slice la d.ls.length lc⟩).toArray,.string d.wt] w fun e w'=>(∃ v,e=.returned v/\w'.ownsRow w.heap.size 9 1 v (askL d.ls d.wt).length (nmC (askL d.ls d.wt)))/\Below w.heap.size w w':=by
 obtain ⟨lb,lo,hc⟩:=M.lks_some hat
 have HC:=hidI hc
 obtain ⟨n,md,⟨m1,m2,m3⟩,ls,⟨rc,rt⟩,wt⟩:=d
 dsimp only at HC hl ⊢
 clear hat hc
 obtain ⟨u0,hu0⟩:∃ u:World,u=w.alloc (.cells #[.string n,.bool md,.string m1,.string m2,.string m3,.slice la ls.length lc,.int .i64 rc,.string rt] 55):=⟨_,rfl⟩
 have HU0:=hidI hu0
 have B0:Hid (Below w.heap.size w u0):=by show Below _ _ _;rw [hu0];exact (Below.refl _ _).alloc (Nat.le_refl _) _
 have C2:Hid (Cl u0 w.heap.size 55 [.string n,.bool md,.string m1,.string m2,.string m3,.slice la ls.length lc,.int .i64 rc,.string rt]):=by show Cl _ _ _ _;rw [hu0];exact cl_new w _ 55
 clear hu0
 go_enter func61,ntmps61
 rw [show (De.vs ⟨⟨n,md,⟨m1,m2,m3⟩,ls,⟨rc,rt⟩,wt⟩,.slice la ls.length lc⟩).toArray=#[.string n,.bool md,.string m1,.string m2,.string m3,.slice la ls.length lc,.int .i64 rc,.string rt] from rfl]
 go_upto_region 2 with fail
 rw [<- HU0.out]
 clear HU0
 have d5:u0.cell? ⟨w.heap.size,5,none⟩=some (.slice la ls.length lc):=C2.out.cell 5
 go_wp2_with fail
 go_loopw [5,11] (fun v5 v11 wr=>∃ (k:Nat) (va:Option Addr) (vc:Nat),k<=ls.length/\v5=.slice va (askK ls k).length vc/\v11=.int .i64 k/\Hid (wr.ownsRow w.heap.size 9 1 (.slice va (askK ls k).length vc) (askK ls k).length (nmC (askK ls k)))/\Hid (Below w.heap.size w wr)) (fun _ v11 _=>ls.length - (intOf v11).toNat)
 case atStart=>exact ⟨0,none,0,Nat.zero_le _,rfl,rfl,World.ownsRow_nil _ _ _ _,B0.out⟩
 obtain ⟨k,va,vc,hk,rfl,rfl,HR,HB⟩:=hrel
 have hak:=askK_len ls k
 by_cases hlt:k<ls.length
 rotate_left
 · obtain rfl:k=ls.length:=by omega
   have HAK:Hid (∀ x,askL ls x=askK ls ls.length++if x=⟨#[]⟩ then [] else [x]):=fun x=>by unfold askL askK;rw [List.take_length]
   cases hw0:wt.toList.isEmpty
   rotate_left
   · have hwe:wt=⟨#[]⟩:=by
      have:wt.toList=[]:=by simpa using hw0
      rw [ByteArray.toList_eq] at this
      exact ByteArray.ext (Array.toList_inj.1 this)
     have HA:Hid (askL ls wt=askK ls ls.length):=by show _=_;rw [HAK.out,if_pos hwe,List.append_nil]
     go_wp2
     go_ret
     exact ⟨⟨_,rfl,by rw [HA.out];exact HR.out⟩,HB.out⟩
   have hwn:wt≠⟨#[]⟩:=fun e=>by rw [e] at hw0;simp [ByteArray.toList_eq] at hw0
   have HA:Hid (askL ls wt=askK ls ls.length++[wt]):=by show _=_;rw [HAK.out,if_neg hwn]
   have hal:Below wr.heap.size wr (wr.alloc (.cells #[.string wt] 9)):=(Below.refl _ _).alloc (Nat.le_refl _) _
   have HRA:=hidI (ownsRow_below HR.out hal)
   have G4:Hid (Cl (wr.alloc (.cells #[.string wt] 9)) wr.heap.size 9 [.string wt]):=hidI (cl_new wr _ 9)
   have hbs:w.heap.size<=(wr.alloc (.cells #[.string wt] 9)).heap.size:=by have:=HB.out.size;simp;omega
   go_wp2_with (refine wl_app rfl _ _ 66 rfl w.heap.size 9 1 underlying66 inf9 (by decide) (.slice va (askK ls ls.length).length vc) (askK ls ls.length).length (nmC (askK ls ls.length)) rfl HRA.out _ 1 [.string wt] rfl (.inr ⟨⟨wr.heap.size,0,none⟩,1,rfl,rfl,cl_row G4.out⟩) (by intro v hv;simp at hv;subst hv;rfl) (by omega) hbs ?_;intro v' w9 O9 g9 at9;have HO9:=hidI O9;have HG9:=hidI g9;clear O9 g9 at9)
   have HBN:=hidI (gr_below (HB.out.trans (hal.mono HB.out.size)) HG9.out hbs (fun k e=>(HRA.out.lt k e).1))
   go_ret
   exact ⟨⟨_,rfl,by rw [HA.out,nmC_app,List.length_append];exact HO9.out⟩,HBN.out⟩
 rcases HC.out with hss | ⟨ha,hbw,hcell⟩
 · rw [hss] at hlt;exact absurd hlt (Nat.not_lt_zero _)
 subst ha
 have g0:=(HB.out.cell (p:=⟨lb,lo+k*4,none⟩) hbw).trans (hcell k hlt).1
 have g1:=(HB.out.cell (p:=⟨lb,lo+k*4+1,none⟩) hbw).trans (hcell k hlt).2.1
 have g2:=(HB.out.cell (p:=⟨lb,lo+k*4+2,none⟩) hbw).trans (hcell k hlt).2.2.1
 have g3:=(HB.out.cell (p:=⟨lb,lo+k*4+3,none⟩) hbw).trans (hcell k hlt).2.2.2
 have HSU:=hidI (askK_succ hlt)
 generalize ls.getD k M.l4z=y at*
 obtain ⟨yh,yn,yc,yt⟩:=y
 dsimp only at g0 g1 g2 g3 HSU
 clear hcell
 obtain ⟨w1,hw1⟩:∃ u:World,u=wr.alloc (.cells #[.bool yh,.string yn,.int .i64 yc,.string yt] 98):=⟨_,rfl⟩
 have HW1:=hidI hw1
 have b1:Below wr.heap.size wr w1:=by rw [hw1];exact (Below.refl _ _).alloc (Nat.le_refl _) _
 have C7:Hid (Cl w1 wr.heap.size 98 [.bool yh,.string yn,.int .i64 yc,.string yt]):=by show Cl _ _ _ _;rw [hw1];exact cl_new wr _ 98
 have HR1:=hidI (ownsRow_below HR.out b1)
 have HB1:=hidI (HB.out.trans (b1.mono HB.out.size))
 clear hw1 b1
 go_upto_region 5 with fail
 rw [<- HW1.out]
 clear HW1 g0 g1 g2 g3
 have h0:w1.cell? ⟨wr.heap.size,0,none⟩=some (.bool yh):=C7.out.cell 0
 have h1:w1.cell? ⟨wr.heap.size,1,none⟩=some (.string yn):=C7.out.cell 1
 cases yh
 rotate_left
 · have HSU':Hid (askK ls (k+1)=askK ls k):=by show _=_;rw [HSU.out];simp
   clear HSU
   go_wp2
   go_roundw
   case rel=>exact ⟨k+1,va,vc,by omega,by rw [HSU'.out],by go_num,by rw [HSU'.out];exact HR1.out,HB1.out⟩
   case measure=>simp [intOf];omega
 have HSU':Hid (askK ls (k+1)=askK ls k++[yn]):=by show _=_;rw [HSU.out];simp
 have hal:Below w1.heap.size w1 (w1.alloc (.cells #[.string yn] 9)):=(Below.refl _ _).alloc (Nat.le_refl _) _
 have HRA:=hidI (ownsRow_below HR1.out hal)
 have G4:Hid (Cl (w1.alloc (.cells #[.string yn] 9)) w1.heap.size 9 [.string yn]):=hidI (cl_new w1 _ 9)
 have hbs:w.heap.size<=(w1.alloc (.cells #[.string yn] 9)).heap.size:=by have:=HB1.out.size;simp;omega
 clear HSU
 go_wp2_with (refine wl_app rfl _ _ 66 rfl w.heap.size 9 1 underlying66 inf9 (by decide) (.slice va (askK ls k).length vc) (askK ls k).length (nmC (askK ls k)) rfl HRA.out _ 1 [.string yn] rfl (.inr ⟨⟨w1.heap.size,0,none⟩,1,rfl,rfl,cl_row G4.out⟩) (by intro v hv;simp at hv;subst hv;rfl) (by omega) hbs ?_;intro v' w9 O9 g9 at9;have HO9:=hidI O9;have HG9:=hidI g9;clear O9 g9 at9)
 have HRN:Hid (w9.ownsRow w.heap.size 9 1 v' (askK ls (k+1)).length (nmC (askK ls (k+1)))):=by show World.ownsRow _ _ _ _ _ _ _;rw [HSU'.out,nmC_app,List.length_append];exact HO9.out
 have HBN:=hidI (gr_below (HB1.out.trans (hal.mono HB1.out.size)) HG9.out hbs (fun k e=>(HRA.out.lt k e).1))
 obtain ⟨vf,vg,hvf⟩:=row_slice HRN.out
 subst hvf
 clear HO9 HG9 HRA G4 hal h0 h1
 go_wp2
 go_roundw
 case rel=>exact ⟨k+1,vf,vg,by omega,rfl,by go_num,HRN.out,HBN.out⟩
 case measure=>simp [intOf];omega
theorem c89 (a:Option Addr) (cap:Nat) (l:List ByteArray) (s:ByteArray) (w:World) (hl:l.length<=1000) (hat:NmsAt w a l):
 Calls prog 89 #[.slice a l.length cap,.string s] w fun e w'=>(∃ r:Int,e=.returned (.int .i64 r)/\(0<=r↔s∈l))/\w'=w:=by
 obtain ⟨b,off,hc⟩:=nms_some hat
 have HC:=hidI hc
 clear hat hc
 go_enter func89,ntmps89
 go_wp2_with fail
 go_loopw [8] (fun vi wr=>∃ k:Nat,k<=l.length/\vi=.int .i64 k/\wr=w/\Hid (∀ j,j<k->l.getD j ⟨#[]⟩≠s)) (fun vi _=>l.length - (intOf vi).toNat)
 case atStart=>exact ⟨0,Nat.zero_le _,rfl,rfl,fun j h=>absurd h (Nat.not_lt_zero _)⟩
 obtain ⟨k,hk,rfl,rfl,hd⟩:=hrel
 by_cases hlt:k<l.length
 rotate_left
 · have HR:Hid (s∉l):=fun hm=>by
    obtain ⟨j,hj,rfl⟩:=List.getElem_of_mem hm
    exact hd.out j (by omega) (by simp [List.getD,List.getElem?_eq_getElem hj])
   clear hd
   go_wp2
   go_ret
   exact ⟨⟨-1,rfl,⟨fun h=>by omega,fun h=>absurd h HR.out⟩⟩,rfl⟩
 rcases HC.out with hss | ⟨ha,hbw,hcell⟩
 · rw [hss] at hlt;exact absurd hlt (Nat.not_lt_zero _)
 subst ha
 have g0:=hcell k hlt
 have HM:Hid (l.getD k ⟨#[]⟩∈l):=by show _∈_;simp [List.getD,List.getElem?_eq_getElem hlt]
 have HD:Hid (l.getD k ⟨#[]⟩≠s->∀ j,j<k+1->l.getD j ⟨#[]⟩≠s):=fun h j hj=>by
  rcases Nat.lt_or_ge j k with h1 | h1
  · exact hd.out j h1
  obtain rfl:j=k:=by omega
  exact h
 generalize l.getD k ⟨#[]⟩=x at*
 clear hcell
 cases hq:(s.toList==x.toList)
 rotate_left
 · have hnm:s=x:=by
    have:=beq_iff_eq.1 hq
    rw [ByteArray.toList_eq,ByteArray.toList_eq] at this
    exact ByteArray.ext (Array.toList_inj.1 this)
   subst hnm
   clear HD hd
   go_wp2
   go_ret
   exact ⟨⟨k,rfl,⟨fun _=>HM.out,fun _=>by omega⟩⟩,rfl⟩
 have hnm:x≠s:=fun e=>by rw [e] at hq;simp at hq
 have HD':=hidI (HD.out hnm)
 clear HD hd HM
 go_wp2
 go_roundw
 case rel=>exact ⟨k+1,by omega,by go_num,trivial,HD'⟩
 case measure=>simp [intOf];omega
theorem c62 (a:Option Addr) (cap:Nat) (l:List ByteArray) (s:ByteArray) (w:World) (hl:l.length<=1000) (hat:NmsAt w a l):
 Calls prog 62 #[.slice a l.length cap,.string s] w fun e w'=>e=.returned (.bool (memB l s))/\w'=w:=by
 have h:=c89 a cap l s w hl hat
 clear hat
 go_enter func62,ntmps62
 go_wp2_with fail
 refine h.mono ?_
 rintro e w1 ⟨⟨r,rfl,hr⟩,rfl⟩
 clear h
 by_cases h0:0<=r
 · have HM:Hid (memB l s=true):=memB_iff.2 (hr.1 h0)
   clear hr
   go_wp2
   go_ret
   exact ⟨by rw [HM.out];rfl,rfl⟩
 have HM:Hid (memB l s=false):=by show _=_;rw [<- Bool.not_eq_true,memB_iff];exact fun h=>h0 (hr.2 h)
 clear hr
 go_wp2
 go_ret
 have hdd:decide (0<=r)=false:=by simpa using h0
 exact ⟨by rw [HM.out,hdd];rfl,rfl⟩
variable {f:Fx} {E:Env} {B6 Z b2 j:Nat} {pre:List De} {x:De} {A N N':List ByteArray} {v va:Value} {g:Gh} {W W':World} {nm s:ByteArray}
structure I6b (f:Fx) (J:List De->Gh->World->Prop) (b2:Nat) (pre:List De) (x:De) (B6 Z:Nat) (A:List ByteArray) (va:Value) (N:List ByteArray) (v:Value) (g:Gh) (W:World):Prop where
 i:I60 f J b2 pre N v g W
 c6:Cl W B6 55 x.vs
 o6:g.ow B6=none
 lk:W.ownsRow Z 98 4 x.lv x.d.ls.length (lkCells x.d.ls)
 ol:∀ k,x.lv.ownBlock=some k->g.ow k=none
 ra:W.ownsRow f.base 9 1 va A.length (nmC A)
 ne:∀ k,va.ownBlock=some k->v.ownBlock≠some k
theorem I6b.grow {J:List De->Gh->World->Prop} (hJ:JOk f E J) (h:I6b f J b2 pre x B6 Z A va N v g W) (hb:Below W.heap.size W W'):I6b f J b2 pre x B6 Z A va N v { g with ow:=extN g.ow W.heap.size } W':=
 ⟨h.i.grow hJ hb,h.c6.below hb h.c6.lt,(extN_lt h.c6.lt).trans h.o6,ownsRow_below h.lk hb,fun k e=>(extN_lt (h.lk.lt k e).2).trans (h.ol k e),ownsRow_below h.ra hb,h.ne⟩
theorem I6b.app {J:List De->Gh->World->Prop} (hJ:JOk f E J) {v':Value} (h:I6b f J b2 pre x B6 Z A va N v g W) (hr:W'.ownsRow f.base 9 1 v' (N.length+1) (nmC N++[.string s])) (hg:W.grownBy W' v.ownBlock) (hat:v'.ownBlock=v.ownBlock\/v'.ownBlock=some W.heap.size):I6b f J b2 pre x B6 Z A va (N++[s]) v' { g with ow:=extN g.ow W.heap.size } W':=by
 obtain ⟨hs,hl,hq⟩:=hJ.st _ _ _ h.i.j
 have hb:Below f.base W W':=gr_below (Below.refl _ _) hg hs.sz (fun k e=>(h.i.rn.lt k e).1)
 have nt:∀ (k:Nat) cur fz t,W.heap[k]?=some (.cells cur t fz)->t≠9->W'.heap[k]?=W.heap[k]?:=fun k cur fz t e ht=>hg.block k (blk_lt e) (fun c=>by
  obtain ⟨_,cu,hcu⟩:=own_block h.i.rn c.symm
  exact blk_ne e hcu ht rfl)
 have hs':Shp f { g with ow:=extN g.ow W.heap.size } W':=(hs.extN _ (Nat.le_refl _)).same hq (hs.bl.trans hb) (fun k o e=>by
  by_cases hk:k<W.heap.size
  · have e':g.ow k=some o:=(extN_lt hk).symm.trans e
    exact hg.block k hk (fun c=>by rw [h.i.on k c.symm] at e';cases e')
  have e':(none:Option Ow)=some o:=(extN_ge (by omega)).symm.trans e
  cases e')
 refine ⟨⟨hJ.mv _ _ _ _ _ h.i.j hs' ⟨hl.mem,hl.inj,hl.his,hl.fin,hl.non,hl.act,hl.que,hl.qnd,hl.qgo,hl.qre,hl.wai,hl.wls⟩ hq hg.size hb (fun k hk e h9=>hg.block k hk (fun c=>by obtain ⟨_,cur,hcu⟩:=own_block h.i.rn c.symm;exact h9 _ _ hcu)) (fun k hk e=>(extN_lt hk).trans e),(nt _ _ _ _ h.i.c2 (by decide)).trans h.i.c2,(extN_lt h.i.c2.lt).trans h.i.o2,by rw [nmC_app,List.length_append];exact hr,fun k e=>?_⟩,(nt _ _ _ _ h.c6 (by decide)).trans h.c6,(extN_lt h.c6.lt).trans h.o6,row_gr h.lk h.i.rn (by decide) hg,fun k e=>(extN_lt (h.lk.lt k e).2).trans (h.ol k e),ownsRow_keep h.ra fun k e=>hg.block k (h.ra.lt k e).2 (fun c=>h.ne k e c.symm),fun k e c=>?_⟩
 · show extN g.ow W.heap.size k=none
   rcases hat with h1 | h1
   · rw [h1] at e
     exact (extN_lt (h.i.rn.lt k e).2).trans (h.i.on k e)
   rw [h1] at e
   cases e
   exact extN_ge (Nat.le_refl _)
 rcases hat with h1 | h1
 · rw [h1] at c
   exact h.ne k e c
 rw [h1] at c
 cases c
 exact absurd (h.ra.lt _ e).2 (Nat.lt_irrefl _)
structure Bf (E:Env) (nm:ByteArray) (pre:List De) (N:List ByteArray):Prop where
 nd:N.Nodup
 rc:∀ k∈N,Rch E nm k
 nm:nm∈N
 tk:pre.map (·.d.nm)=N.take pre.length
 le:pre.length<=N.length
 ok:∀ x∈pre,IsDd E x.d.nm x.d/\∀ k∈askL x.d.ls x.d.wt,k∈N
structure Bg (E:Env) (nm:ByteArray) (N A:List ByteArray) (j:Nat) (N':List ByteArray):Prop where
 nd:N'.Nodup
 rc:∀ k∈N',Rch E nm k
 px:N <+:N'
 ak:∀ k∈A.take j,k∈N'
structure Fin60 (E:Env) (nm:ByteArray) (xs:List De):Prop where
 nd:(xs.map (·.d.nm)).Nodup
 ok:∀ x∈xs,IsDd E x.d.nm x.d
 mem:∀ k,k∈xs.map (·.d.nm)↔Rch E nm k
theorem Bf.done (hE:EnvOk E) (h:Bf E nm pre N) (hl:N.length<=pre.length):Fin60 E nm pre:=by
 have e:pre.map (·.d.nm)=N:=by rw [h.tk,List.take_of_length_le hl]
 refine ⟨by rw [e];exact h.nd,fun x hx=>(h.ok x hx).1,fun k=>?_⟩
 rw [e]
 refine ⟨h.rc k,fun hr=>?_⟩
 induction hr with
 | base=>exact h.nm
 | @step n k _ ha ih=>
  obtain ⟨d,h1,h2⟩:=ha
  rw [<- e] at ih
  obtain ⟨x,hx,rfl⟩:=List.mem_map.1 ih
  obtain ⟨h3,h4⟩:=h.ok x hx
  rw [isDd_one hE h1 h3] at h2
  exact h4 k h2
theorem Bf.next (h:Bf E nm pre N) (hl:pre.length<N.length) (hx:IsDd E (N.getD pre.length ⟨#[]⟩) x.d) (hg:Bg E nm N (askL x.d.ls x.d.wt) (askL x.d.ls x.d.wt).length N'):Bf E nm (pre++[x]) N':=by
 have hn:=isDd_nm hx
 refine ⟨hg.nd,hg.rc,hg.px.subset h.nm,?_,?_,fun y hy=>?_⟩
 · rw [List.map_append,h.tk,List.length_append]
   obtain ⟨r,rfl⟩:=hg.px
   rw [List.take_append_of_le_length (by simp;omega),List.length_singleton,List.take_succ_eq_append_getElem hl]
   simp [hn,List.getD,List.getElem?_eq_getElem hl]
 · have:=hg.px.length_le
   simp;omega
 rcases List.mem_append.1 hy with hy | hy
 · exact ⟨(h.ok y hy).1,fun k hk=>hg.px.subset ((h.ok y hy).2 k hk)⟩
 rw [List.mem_singleton.1 hy]
 exact ⟨by rw [hn];exact hx,fun k hk=>hg.ak k (by rw [List.take_length];exact hk)⟩
theorem Bg.skip (h:Bg E nm N A j N') (hj:j<A.length) (hm:A.getD j ⟨#[]⟩∈N'):Bg E nm N A (j+1) N':=
 ⟨h.nd,h.rc,h.px,fun k hk=>by
  rw [List.take_succ_eq_append_getElem hj] at hk
  rcases List.mem_append.1 hk with hk | hk
  · exact h.ak k hk
  rw [List.mem_singleton.1 hk]
  simpa [List.getD,List.getElem?_eq_getElem hj] using hm⟩
theorem Bg.add (h:Bg E nm N A j N') (hj:j<A.length) (hm:A.getD j ⟨#[]⟩∉N') (hr:Rch E nm (A.getD j ⟨#[]⟩)):Bg E nm N A (j+1) (N'++[A.getD j ⟨#[]⟩]):=by
 refine Bg.skip ⟨?_,fun k hk=>?_,h.px.trans ⟨_,rfl⟩,fun k hk=>List.mem_append_left _ (h.ak k hk)⟩ hj (List.mem_append_right _ (List.mem_singleton.2 rfl))
 · rw [List.nodup_append]
   exact ⟨h.nd,by simp,fun a ha b hb e=>hm (by rw [List.mem_singleton.1 hb] at e;rw [<- e];exact ha)⟩
 rcases List.mem_append.1 hk with hk | hk
 · exact h.rc k hk
 rw [List.mem_singleton.1 hk]
 exact hr
def Yd (J:List De->Gh->World->Prop) (pre:List De) (x:De) (g:Gh) (W W':World):Prop:=∃ g',J (pre++[x]) g' W'/\W.heap.size<=W'.heap.size/\(∀ k,k<W.heap.size->g.ow k=none->g'.ow k=none)/\∀ (k:Nat) cur t fz,W.heap[k]?=some (.cells cur t fz)->t=9\/t=77->W'.heap[k]?=W.heap[k]?
theorem I60.next {J:List De->Gh->World->Prop} (h:I60 f J b2 pre N v g W) (hy:Yd J pre x g W W'):∃ g',I60 f J b2 (pre++[x]) N v g' W':=by
 obtain ⟨g',h1,h2,h3,h4⟩:=hy
 exact ⟨g',h1,(h4 _ _ _ _ h.c2 (.inr rfl)).trans h.c2,h3 _ h.c2.lt h.o2,ownsRow_keep h.rn (fun k e=>by
  obtain ⟨_,cur,hcu⟩:=own_block h.rn e
  exact h4 _ _ _ _ hcu (.inl rfl)),fun k e=>h3 k (h.rn.lt k e).2 (h.on k e)⟩
end Go.Proofs.YthfmmimmfcnhmaaGreatDoor
namespace Go.Proofs.YthfmmimmfcnhmaaGreatDoor
open Proofs.Tryz
open Go.RowKit
theorem c60 (f:Fx) (E:Env) (hf:Fok f E) (hms:E.ms.length<=30) (J:List De->Gh->World->Prop) (hJ:JOk f E J) (l m b1 b2:Nat) (nm:ByteArray) (g:Gh) (w:World) (h0:J [] g w) (hc1:Cl w b1 9 [.string nm]) (hc2:Cl w b2 77 [.func (.func 23) #[.pointer (some ⟨f.kb,0,none⟩)] #[]]) (ho2:g.ow b2=none) (hok:nameOk nm.data.toList=true)
 (hY:∀ pre x g W,J pre g W->pre.length<481->(∃ g0 W0,J pre g0 W0/\W.ownsRow W0.heap.size 98 4 x.lv x.d.ls.length (lkCells x.d.ls))->(∀ k,x.lv.ownBlock=some k->g.ow k=none)->YieldAt Fence.wide m prog l #[.agg x.vs.toArray] W fun e W'=>e=.returned (.bool true)/\Yd J pre x g W W'):
 Calls prog 60 #[.func (.yield l) #[] #[],.pointer (some ⟨b1,0,none⟩),.pointer (some ⟨b2,0,none⟩)] w fun e W'=>(∃ v,e=.returned v)/\∃ xs g',J xs g' W'/\Fin60 E nm xs:=by
 have hEE:EnvOk E:=by rw [hf.hE];exact envOk hf.tr hf.pt
 have HEE:=hidI hEE
 have HY:=hidI hY
 have HLEN:Hid (∀ N:List ByteArray,N.Nodup->(∀ k∈N,Rch E nm k)->N.length<=481):=fun N h1 h2=>rch_len hEE hms h1 h2
 have HOK:Hid (∀ k,Rch E nm k->nameOk k.data.toList=true):=fun k h=>rch_ok hEE hok h
 obtain ⟨hs,hl,hq⟩:=hJ.st _ _ _ h0
 have d1:w.cell? ⟨b1,0,none⟩=some (.string nm):=hc1.cell 0
 obtain ⟨u0,hu0⟩:∃ u:World,u=w.alloc (.cells #[.string nm] 9):=⟨_,rfl⟩
 have HU0:=hidI hu0
 have bb0:Below w.heap.size w u0:=by rw [hu0];exact (Below.refl _ _).alloc (Nat.le_refl _) _
 have I0:Hid (I60 f J b2 [] [nm] (.slice (some ⟨w.heap.size,0,none⟩) 1 1) { g with ow:=extN g.ow w.heap.size } u0):=by
  refine hidI ⟨hJ.mv _ _ _ _ _ h0 ((hs.extN _ (Nat.le_refl _)).grow bb0) ⟨hl.mem,hl.inj,hl.his,hl.fin,hl.non,hl.act,hl.que,hl.qnd,hl.qgo,hl.qre,hl.wai,hl.wls⟩ hq bb0.size (bb0.mono hs.sz) (fun k hk _ _=>bb0.block k hk) (fun k hk e=>(extN_lt hk).trans e),hc2.below bb0 hc2.lt,(extN_lt hc2.lt).trans ho2,?_,fun k e=>by cases e;exact extN_ge (Nat.le_refl _)⟩
  rw [hu0]
  exact ⟨rfl,.inr ⟨w.heap.size,1,#[.string nm],rfl,hs.sz,World.alloc_heap_new w _,Nat.le_refl _,by decide,rfl,rfl⟩⟩
 have F0:Hid (Bf E nm [] [nm]):=hidI ⟨by simp,fun k hk=>by rw [List.mem_singleton.1 hk];exact .base,List.mem_singleton.2 rfl,rfl,Nat.zero_le _,fun x hx=>by cases hx⟩
 clear h0 hc1 hc2 ho2 hok hY hEE hs hl hq hu0 bb0 hms
 go_enter func60,ntmps60
 go_upto_region 1 with fail
 rw [<- HU0.out]
 clear HU0 d1
 go_wp2_with fail
 go_loopw [4,5] (fun v4 v5 wr=>∃ (pre:List De) (N:List ByteArray) (va:Option Addr) (vc:Nat) (g:Gh),v4=.slice va N.length vc/\v5=.int .i64 pre.length/\Hid (I60 f J b2 pre N (.slice va N.length vc) g wr)/\Hid (Bf E nm pre N)) (fun _ v5 _=>481 - (intOf v5).toNat)
 case atStart=>exact ⟨[],[nm],_,_,_,rfl,rfl,I0.out,F0.out⟩
 clear I0 F0
 obtain ⟨pre,N,va,vc,g1,rfl,rfl,HI,HF⟩:=hrel
 obtain ⟨wo,rfl⟩:∃ x,x=wr:=⟨_,rfl⟩
 have hN481:=HLEN.out N HF.out.nd HF.out.rc
 have hpl:=HF.out.le
 by_cases hlt:pre.length<N.length
 rotate_left
 · have HFin:=hidI (HF.out.done HEE.out (by omega))
   go_wp2
   go_end0
   exact ⟨⟨_,rfl⟩,pre,g1,HI.out.j,HFin.out⟩
 obtain ⟨nb,no,rfl⟩:∃ nb no,va=some ⟨nb,no,none⟩:=by
  obtain ⟨a,c,e,hn⟩:=row_nms HI.out.rn
  injection e with e _ _
  subst e
  rcases hn with h | ⟨b,off,h,_⟩
  · rw [h] at hlt;cases hlt
  exact ⟨b,off,h⟩
 obtain ⟨n,HNN⟩:∃ n,Hid (N.getD pre.length ⟨#[]⟩=n):=⟨_,rfl⟩
 have HRN:Hid (Rch E nm n):=by show Rch _ _ _;rw [<- HNN.out];exact HF.out.rc _ (by rw [List.getD,List.getElem?_eq_getElem hlt];exact List.getElem_mem hlt)
 go_upto_region 4 with fail
 try simp only [qq]
 refine r60 f E hf J hJ b2 pre N nb no vc pre.length n g1 wo _ _ _ _ _ _ _ _ _ _ _ _ _ _ _ _ _ _ _ _ _ _ _ _ _ _ _ _ _ _ _ _ _ _ _ _ _ _ _ _ _ _ _ _ _ ?hq1 HI hlt (by omega) HNN (HOK.out n HRN.out) ?kk1
 case hq1=>exact fun _ _ d _ _ h=>by cases d <;> exact h
 intro t18 t19 t20 t21 t22 t23 t24 t25 t26 d la c B6 g2 w2 hI hd hlk hol hc6 ho6 hz hb
 have hdl:=isDd_len HEE.out hd
 have hdn:=hdl.1
 have h61:=c61 d la c w2 hdl.1 (by
  obtain ⟨a,c',e,h⟩:=row_lks hlk
  injection e with e _ _
  rw [e];exact h)
 rw [show (De.vs ⟨d,.slice la d.ls.length c⟩).toArray=#[.string d.nm,.bool d.md,.string d.m.nm,.string d.m.tl,.string d.m.ar,.slice la d.ls.length c,.int .i64 d.r.code,.string d.r.tx] from rfl] at h61
 have HI2:=hidI hI
 have HD:=hidI hd
 have HLK:=hidI hlk
 have HOL:=hidI hol
 have HC6:=hidI hc6
 have HO6:=hidI ho6
 clear hI hd hlk hol hc6 ho6 hb hdl
 go_wp2_with (refine wl_val rfl (ex_ldN 55 _ rfl (B:=B6) (j:=0) (cs:=[.string d.nm,.bool d.md,.string d.m.nm,.string d.m.tl,.string d.m.ar,.slice la d.ls.length c,.int .i64 d.r.code,.string d.r.tx]) rfl (fun q v e=>by rw [Nat.zero_add];exact (HC6.out.cell q).trans e) underlying55 rfl (by kernel_rfl)) ?_)
 refine h61.mono ?_
 rintro e w3 ⟨⟨v29,rfl,hra⟩,hb3⟩
 obtain ⟨A,HA⟩:∃ A,Hid (askL d.ls d.wt=A):=⟨_,rfl⟩
 have hAl:=askL_len d.ls d.wt
 rw [HA.out] at hra hAl
 obtain ⟨aa,ac,rfl,hat⟩:=row_nms hra
 have HB0:Hid (I6b f J b2 pre ⟨d,.slice la d.ls.length c⟩ B6 wo.heap.size A (.slice aa A.length ac) N (.slice (some ⟨nb,no,none⟩) N.length vc) { g2 with ow:=extN g2.ow w2.heap.size } w3):=hidI ⟨HI2.out.grow hJ hb3,HC6.out.below hb3 HC6.out.lt,(extN_lt HC6.out.lt).trans HO6.out,ownsRow_below HLK.out hb3,fun k e=>(extN_lt (HLK.out.lt k e).2).trans (HOL.out k e),owns_mono hra ((hJ.st _ _ _ HI2.out.j).1.sz),fun k e c=>by
  have h1:=(hra.lt k e).1
  have h2:=(HI2.out.rn.lt k c).2
  omega⟩
 have HG0:Hid (Bg E nm N A 0 N):=hidI ⟨HF.out.nd,HF.out.rc,⟨[],by simp⟩,fun k hk=>by simp at hk⟩
 have hA16:A.length<=16:=by omega
 clear h61 hra hat hb3 HI2 HC6 HO6 HOL HLK hAl
 go_wp2_with fail
 go_loopw [4,31] (fun v4 v31 wr=>∃ (j:Nat) (N':List ByteArray) (va:Option Addr) (vc:Nat) (g:Gh),j<=A.length/\v4=.slice va N'.length vc/\v31=.int .i64 j/\Hid (I6b f J b2 pre ⟨d,.slice la d.ls.length c⟩ B6 wo.heap.size A (.slice aa A.length ac) N' (.slice va N'.length vc) g wr)/\Hid (Bg E nm N A j N')) (fun _ v31 _=>A.length - (intOf v31).toNat)
 case atStart=>exact ⟨0,N,_,_,_,Nat.zero_le _,rfl,rfl,HB0.out,HG0.out⟩
 clear HB0 HG0
 obtain ⟨j,N',va',vc',g3,hj,rfl,rfl,HB,HG⟩:=hrel
 have hN':=HLEN.out N' HG.out.nd HG.out.rc
 by_cases hjl:j<A.length
 rotate_left
 · have hje:j=A.length:=by omega
   subst hje
   have HY1:=HY.out pre ⟨d,.slice la d.ls.length c⟩ g3 wr HB.out.i.j (by omega) ⟨g1,wo,HI.out.j,HB.out.lk⟩ HB.out.ol
   have HBf:Hid (Bf E nm (pre++[⟨d,.slice la d.ls.length c⟩]) N'):=hidI (HF.out.next hlt (by rw [HNN.out];exact HD.out) (by show Bg E nm N (askL d.ls d.wt) (askL d.ls d.wt).length N';rw [HA.out];exact HG.out))
   go_upto_region 11 with fail
   try simp only [qq]
   refine y60 ⟨d,.slice la d.ls.length c⟩ B6 l m wr _ _ _ _ _ _ _ _ _ _ _ _ _ _ _ _ _ _ _ _ _ _ _ _ _ _ _ _ _ _ _ _ _ _ _ _ _ _ _ _ _ _ _ _ _ _ HB.out.c6 HY1 ?_
   intro t44 t45 t46 w5 hyd
   obtain ⟨g5,hI5⟩:=HB.out.i.next hyd
   have HI5:=hidI hI5
   clear hyd hI5 HY1
   go_wp2
   go_roundw
   case rel=>exact ⟨_,N',_,_,g5,rfl,by rw [List.length_append];go_num,HI5.out,HBf.out⟩
   case measure=>simp [intOf];omega
 obtain ⟨ab,ao,rfl⟩:∃ nb no,aa=some ⟨nb,no,none⟩:=by
  obtain ⟨a,c,e,hn⟩:=row_nms HB.out.ra
  injection e with e _ _
  subst e
  rcases hn with h | ⟨b,off,h,_⟩
  · rw [h] at hjl;cases hjl
  exact ⟨b,off,h⟩
 have gA:=(nms_cell HB.out.ra hjl).1
 have HRA:Hid (Rch E nm (A.getD j ⟨#[]⟩)):=hidI (.step HRN.out ⟨d,HD.out,by rw [HA.out,List.getD,List.getElem?_eq_getElem hjl];exact List.getElem_mem hjl⟩)
 have HGS:=hidI (fun h=>HG.out.skip hjl h)
 have HGA:=hidI (fun h=>HG.out.add hjl h HRA.out)
 generalize A.getD j ⟨#[]⟩=s at*
 have h62:=c62 va' vc' N' s wr (by omega) (by
  obtain ⟨a,c',e,h⟩:=row_nms HB.out.i.rn
  injection e with e _ _
  rw [e];exact h)
 go_wp2_with fail
 refine h62.mono ?_
 rintro e w4 ⟨rfl,rfl⟩
 clear h62
 cases hmb:memB N' s
 rotate_left
 · have HG':=hidI (HGS.out (memB_iff.1 hmb))
   clear HGS HGA
   go_wp2
   go_roundw
   case rel=>exact ⟨j+1,N',_,_,_,hjl,rfl,by go_num,HB.out,HG'.out⟩
   case measure=>simp [intOf];omega
 have HG':=hidI (HGA.out (fun h=>by rw [memB_iff.2 h] at hmb;cases hmb))
 clear HGS HGA
 have hal:Below w4.heap.size w4 (w4.alloc (.cells #[.string s] 9)):=(Below.refl _ _).alloc (Nat.le_refl _) _
 have HBA:=hidI (HB.out.grow hJ hal)
 have G4:Hid (Cl (w4.alloc (.cells #[.string s] 9)) w4.heap.size 9 [.string s]):=hidI (cl_new w4 _ 9)
 have hbs:f.base<=(w4.alloc (.cells #[.string s] 9)).heap.size:=(hJ.st _ _ _ HBA.out.i.j).1.sz
 clear gA
 go_wp2_with (refine wl_app rfl _ _ 66 rfl f.base 9 1 underlying66 inf9 (by decide) (.slice va' N'.length vc') N'.length (nmC N') rfl HBA.out.i.rn _ 1 [.string s] rfl (.inr ⟨⟨w4.heap.size,0,none⟩,1,rfl,rfl,cl_row G4.out⟩) (by intro v hv;simp at hv;subst hv;rfl) (by omega) hbs ?_;intro v' w9 O9 g9 at9;have HO9:=hidI O9;have HG9:=hidI g9;have HA9:=hidI at9;clear O9 g9 at9)
 have HBN:=hidI (HBA.out.app hJ HO9.out HG9.out HA9.out)
 obtain ⟨vf,vg,hvf⟩:=row_slice HBN.out.i.rn
 subst hvf
 clear HO9 HG9 HA9 HBA G4 hal HB hbs
 go_wp2
 go_roundw
 case rel=>exact ⟨j+1,_,_,_,_,hjl,rfl,by go_num,HBN.out,HG'.out⟩
 case measure=>simp [intOf];omega
