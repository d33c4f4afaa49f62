import Derived.Laws.EntriesVeiled
import Derived.Test.YthfmmimmfcnhmaaGreatDoorZ47
import Derived.Test.YthfmmimmfcnhmaaGreatDoorZ46
set_option linter.unusedVariables false
set_option maxHeartbeats 8000000
set_option maxRecDepth 100000
namespace Go.Proofs.YthfmmimmfcnhmaaGreatDoor
open Proofs.Tryz
open Go.RowKit
open G (IsPT)
open G.T (F2 f2z treeOk FilesAt)
structure Fok (f:Fx) (E:Env):Prop where
 ten:10<=f.base
 shp:ShapesAt f.w0
 mx:MaxAt f.w0
 fa:FilesAt f.w0 f.ta f.fs
 tr:treeOk f.fs
 pt:IsPT f.fs f.ms
 hE:E=envOf f.fs f.ms
def BegTo (g g':Gh) (m:M3) (i:Nat) (x:Ru):Prop:=
 (g.rs[i]?=some x/\x.k.m.nm=m.nm/\g'.rs=g.rs/\g'.q=g.q)\/
 (i=g.rs.length/\(∀ (j:Nat) y,g.rs[j]?=some y->y.k.m.nm≠m.nm)/\g'.rs=g.rs++[x]/\g'.q=g.q++[.go i]/\x.k.m=m/\x.ls=[]/\x.st=false/\x.wl=[]/\x.sta=.que/\x.r=⟨6,⟨#[]⟩⟩)
section
variable {P:Program}
theorem ex_look {o:Oper} {a:Act} {w:World} (t:TypeId) (x y:Operand) (ok:Bool) (ho:o.op=.lookup t x y ok) {v z u:Value} (hx:a.eval x=v) (hy:a.eval y=z) (hr:(Instr.lookup t v z ok).run P w=.ok u w):(execOp a.eval o).run P w=.ok (.value u) w:=by
 unfold execOp
 simp only [ho,hx,hy,Sem.run_bind,hr,Result.andThen_ok,Sem.run_pure]
end
theorem Cl.gb {w w':World} {b:Nat} {t:TypeId} {xs:List Value} {row:Option Nat} (h:Cl w b t xs) (hg:w.grownBy w' row) (hne:some b≠row):Cl w' b t xs:=(hg.block b h.lt hne).trans h
def kv (p:Option Value):Value:=.tuple #[p.getD (.pointer none),.bool p.isSome]
theorem look67 {w:World} {b n:Nat} {l:List (ByteArray×Value)} {k:ByteArray} (h:w.ownsMap prog 9 tokR b n (mapD l)) (hk:k.size<=maxLen):(Instr.lookup 84 (.map (some b)) (.string k) true).run prog w=.ok (kv (getK l k)) w:=look_ok_S h underlying84 (Tryz.zeroValue92 w) hk
theorem gb_ex {w w':World} {b:Nat} (h:w.grownBy w' (some b)):Ex (fun k=>k=b) w w':=⟨h.os,h.tape,h.output,h.size,fun k hk hn=>h.block k hk (fun e=>hn (Option.some.inj e))⟩
theorem Ex.trans' {w u w':World} {b:Nat} (h:Ex (fun k=>k=b) w u) (hg:u.grownBy w' (some b)):Ex (fun k=>k=b) w w':=h.trans (gb_ex hg)
theorem len_put {l:List (ByteArray×Value)} {k:ByteArray} {v:Value} {w:World} {b n:Nat} (h:w.ownsMap prog 9 tokR b n ((mapD l).put (kS k) (.held v))):w.ownsMap prog 9 tokR b (insK (k,v) (l.filter fun p=>!decide (p.1=k))).length (mapD (insK (k,v) (l.filter fun p=>!decide (p.1=k)))):=by
 rw [mapD_put'] at h
 have:=mp_tight h
 rwa [mapD_size] at this
theorem nodup_len {α:Type}:∀ {l l':List α},l.Nodup->(∀ x∈l,x∈l')->l.length<=l'.length
 | [],_,_,_=>Nat.zero_le _
 | a::l,l',hn,hs=>by
  obtain ⟨p,q,rfl⟩:=List.append_of_mem (hs a (List.mem_cons_self ..))
  have hn':=List.nodup_cons.1 hn
  have:=nodup_len (l:=l) (l':=p++q) hn'.2 (fun x hx=>by
   have:=hs x (List.mem_cons_of_mem _ hx)
   rw [List.mem_append,List.mem_cons] at this
   rw [List.mem_append]
   rcases this with h | rfl | h
   · exact .inl h
   · exact absurd hx hn'.1
   exact .inr h)
  simp at this ⊢
  omega
theorem asc_len {l:List (ByteArray×Value)} {rs:List Ru} (ha:Asc l) (h:∀ n,getK l n≠none->∃ (i:Nat) (x:Ru),rs[i]?=some x/\x.k.m.nm=n):l.length<=rs.length:=by
 have h1:(l.map (·.1)).Nodup:=by
  rw [List.nodup_iff_pairwise_ne,List.pairwise_map]
  exact ha.imp fun {p q} hb e=>by rw [e,bef_irr] at hb;cases hb
 have:=nodup_len h1 (l':=rs.map (·.k.m.nm)) (fun n hn=>by
  obtain ⟨p,hp,rfl⟩:=List.mem_map.1 hn
  obtain ⟨i,x,hx,e⟩:=h p.1 (by rw [getK_asc ha (v:=p.2) hp];simp)
  exact List.mem_map.2 ⟨x,List.mem_of_getElem? hx,e⟩)
 simpa using this
theorem c47 (f:Fx) (E:Env) (hf:Fok f E) (g:Gh) (m:M3) (w:World) (hs:Shp f g w) (hm:m.nm.size<=20) (hrl:g.rs.length<=1000) (hql:g.q.length<=1000):
 Calls prog 47 #[pt f.kb,.agg #[.string m.nm,.string m.tl,.string m.ar]] w fun e w'=>∃ (g':Gh) (i:Nat) (x:Ru),e=.returned (pt x.k.B)/\Shp f g' w'/\BegTo g g' m i x/\g'.rs[i]?=some x/\Below f.base w w'/\∀ k,k<w.heap.size->g.ow k=none->w'.heap[k]?=w.heap[k]?/\g'.ow k=none:=by
 have hnl:m.nm.size<=maxLen:=by unfold maxLen;omega
 have HS0:=hidI hs
 obtain ⟨w1,hw1⟩:∃ u:World,u=(w.alloc (.cells #[pt f.kb] 46)).alloc (.cells #[.string m.nm,.string m.tl,.string m.ar] 50):=⟨_,rfl⟩
 have hb1:Below w.heap.size w w1:=by rw [hw1];exact ((Below.refl _ _).alloc (Nat.le_refl _) _).alloc (by simp) _
 have HS1:=hidI (hs.grow hb1)
 have C2:Hid (Cl w1 w.heap.size 46 [pt f.kb]):=by show Cl _ _ _ _;rw [hw1];exact cl_old (cl_new w [pt f.kb] 46) _
 have C3:Hid (Cl w1 (w.heap.size+1) 50 [.string m.nm,.string m.tl,.string m.ar]):=by
  have:=cl_new (w.alloc (.cells #[pt f.kb] 46)) [.string m.nm,.string m.tl,.string m.ar] 50
  simp only [World.size_alloc] at this
  show Cl _ _ _ _
  rw [hw1];exact this
 have hz1:w1.heap.size=w.heap.size+2:=by rw [hw1];simp
 have HZ1:=hidI hz1
 have HW1:=hidI hw1
 clear hs hw1 hz1
 obtain ⟨kp,HKP⟩:∃ k,Hid (getK g.lr m.nm=k):=⟨_,rfl⟩
 obtain ⟨pv,bb,HKV⟩:∃ p b,Hid (kv (getK g.lr m.nm)=.tuple #[p,.bool b]):=⟨_,_,rfl⟩
 have HKV2:Hid (pv=(getK g.lr m.nm).getD (.pointer none)/\bb=(getK g.lr m.nm).isSome):=by
  have:=HKV.out
  unfold kv at this
  injection this with this
  simp at this
  exact ⟨this.1.symm,this.2.symm⟩
 go_enter func47,ntmps47
 rw [show pt f.kb=.pointer (some ⟨f.kb,0,none⟩) from rfl]
 go_upto_region 1 with fail
 rw [show ((w.alloc (.cells #[.pointer (some ⟨f.kb,0,none⟩)] 46)).alloc (.cells #[.string m.nm,.string m.tl,.string m.ar] 50))=w1 from HW1.out.symm]
 refine wp_region_held_drew (S:=fun u=>Cl u w.heap.size 46 [pt f.kb]/\Cl u (w.heap.size+1) 50 [.string m.nm,.string m.tl,.string m.ar]/\Cl u f.kb 88 (kbCells f g.rv)/\u.ownsMap prog 9 tokR f.mr g.lr.length (mapD g.lr)) (by kernel_rfl) ?_ (fun hH=>?_)
 · exact ⟨C2.out,C3.out,HS1.out.kb,HS1.out.mr⟩
 refine tq 0 hH ?_ (v:=?_) (hv:=?e)
 case e=>intro wq hSw;(try dsimp only at hSw);obtain ⟨s1,s2,s3,s4⟩:=hSw;have d1:wq.cell? ⟨w.heap.size,0,none⟩=some (.pointer (some ⟨f.kb,0,none⟩)):=s1.cell 0;have d2:wq.cell? ⟨w.heap.size+1,0,none⟩=some (.string m.nm):=s2.cell 0;have d3:wq.cell? ⟨f.kb,2,none⟩=some (.map (some f.mr)):=s3.cell 2;go_simp;try with_reducible rfl
 refine tq 1 hH ?_
 refine tq 2 hH ?_
 refine tq 3 hH ?_ (v:=?_) (hv:=?e)
 case e=>intro wq hSw;(try dsimp only at hSw);obtain ⟨s1,s2,s3,s4⟩:=hSw;have d1:wq.cell? ⟨w.heap.size,0,none⟩=some (.pointer (some ⟨f.kb,0,none⟩)):=s1.cell 0;have d2:wq.cell? ⟨w.heap.size+1,0,none⟩=some (.string m.nm):=s2.cell 0;have d3:wq.cell? ⟨f.kb,2,none⟩=some (.map (some f.mr)):=s3.cell 2;go_simp;try with_reducible rfl
 refine tq 4 hH ?_
 refine tq 5 hH ?_ (v:=?_) (hv:=?e)
 case e=>intro wq hSw;(try dsimp only at hSw);obtain ⟨s1,s2,s3,s4⟩:=hSw;have d1:wq.cell? ⟨w.heap.size,0,none⟩=some (.pointer (some ⟨f.kb,0,none⟩)):=s1.cell 0;have d2:wq.cell? ⟨w.heap.size+1,0,none⟩=some (.string m.nm):=s2.cell 0;have d3:wq.cell? ⟨f.kb,2,none⟩=some (.map (some f.mr)):=s3.cell 2;go_simp;try with_reducible rfl
 try simp only [qq]
 refine tk (i:=6) (oi:=⟨some 18,.lookup 84 (.tmp 15) (.tmp 17) true,131,_,_,none⟩) (v:=.tuple #[pv,.bool bb]) rfl (by kernel_rfl) rfl ?e hH ?_
 case e=>intro wq hSw;exact ex_look 84 _ _ true rfl (v:=.map (some f.mr)) (z:=.string m.nm) rfl rfl ((look67 hSw.2.2.2 hnl).trans (by rw [HKV.out]))
 refine tq 7 hH ?_
 refine tq 8 hH ?_
 refine tq 9 hH ?_
 refine tq 10 hH ?_
 refine tq 11 hH ?_
 try simp only [qq]
 refine wpAnyH_done (by kernel_rfl) ?_ _
 obtain ⟨x1,hx1⟩:∃ x:World,x=w1.drew:=⟨_,rfl⟩
 rw [<- hx1]
 have hbx:Below w1.heap.size w1 x1:=by rw [hx1];exact (Below.refl _ w1).drew
 have HSX:=hidI (HS1.out.grow hbx)
 have C2x:=hidI (C2.out.below hbx C2.out.lt)
 have C3x:=hidI (C3.out.below hbx C3.out.lt)
 have hzx:w.heap.size+2<=x1.heap.size:=by rw [hx1];exact Nat.le_of_eq HZ1.out.symm
 have hBx:Below w.heap.size w x1:=hb1.trans (hbx.mono (by have:=HZ1.out;omega))
 clear hx1 hbx HS1 C2 C3 hH HW1 hb1
 cases bb
 rotate_left
 · obtain ⟨i,x,hix,hpx,hnx⟩:∃ (i:Nat) (x:Ru),g.rs[i]?=some x/\pv=pt x.k.B/\x.k.m.nm=m.nm:=by
    have h2:=HKV2.out.2
    cases h:getK g.lr m.nm with
    | none=>rw [h] at h2;cases h2
    | some p=>
     obtain ⟨i,x,hx,hn⟩:=HSX.out.only m.nm (by rw [h];simp)
     have hk:=HSX.out.key i x hx
     rw [hn] at hk
     exact ⟨i,x,hx,by rw [HKV2.out.1,hk];rfl,hn⟩
   subst hpx
   clear HKV HKV2 HKP
   have HIX:=hidI hix
   have HNX:=hidI hnx
   clear hix hnx
   go_wp2
   go_ret
   exact ⟨g,i,x,rfl,HSX.out,.inl ⟨HIX.out,HNX.out,rfl,rfl⟩,HIX.out,hBx.mono HS0.out.sz,fun k hk he=>⟨hBx.block k hk,he⟩⟩
 have HNK:Hid (getK g.lr m.nm=none):=by
  have:=HKV2.out.2
  cases h:getK g.lr m.nm with
  | none=>rfl
  | some p=>rw [h] at this;cases this
 clear HKV HKV2 HKP
 have d0:x1.cell? ⟨w.heap.size+1,0,none⟩=some (.string m.nm):=C3x.out.cell 0
 have d1:x1.cell? ⟨w.heap.size+1,1,none⟩=some (.string m.tl):=C3x.out.cell 1
 have d2:x1.cell? ⟨w.heap.size+1,2,none⟩=some (.string m.ar):=C3x.out.cell 2
 go_upto_region 5 with fail
 obtain ⟨w2,hw2⟩:∃ u:World,u=(x1.alloc (.cells #[.string m.nm,.bool true,.string m.nm,.string m.tl,.string m.ar,.slice none 0 0,.int .i64 6,.string ⟨#[]⟩,.string ⟨#[]⟩] 95)).alloc (.cells #[.pointer (some ⟨x1.heap.size,0,none⟩)] 92):=⟨_,rfl⟩
 rw [<- hw2]
 have hb2:Below x1.heap.size x1 w2:=by rw [hw2];exact ((Below.refl _ _).alloc (Nat.le_refl _) _).alloc (by simp) _
 have CB:Hid (Cl w2 x1.heap.size 95 [.string m.nm,.bool true,.string m.nm,.string m.tl,.string m.ar,.slice none 0 0,.int .i64 6,.string ⟨#[]⟩,.string ⟨#[]⟩]):=by show Cl _ _ _ _;rw [hw2];exact cl_old (cl_new x1 _ 95) _
 have C7:Hid (Cl w2 (x1.heap.size+1) 92 [pt x1.heap.size]):=by
  have:=cl_new (x1.alloc (.cells #[.string m.nm,.bool true,.string m.nm,.string m.tl,.string m.ar,.slice none 0 0,.int .i64 6,.string ⟨#[]⟩,.string ⟨#[]⟩] 95)) [pt x1.heap.size] 92
  simp only [World.size_alloc] at this
  show Cl _ _ _ _
  rw [hw2];exact this
 have HS2:=hidI (HSX.out.grow hb2)
 have C2y:=hidI (C2x.out.below hb2 C2x.out.lt)
 have C3y:=hidI (C3x.out.below hb2 C3x.out.lt)
 have hB2:Below w.heap.size w w2:=hBx.trans (hb2.mono (by omega))
 clear hw2 hb2 HSX C2x C3x d0 d1 d2
 refine wp_region_held_drew (S:=fun u=>Cl u w.heap.size 46 [pt f.kb]/\Cl u (w.heap.size+1) 50 [.string m.nm,.string m.tl,.string m.ar]/\Cl u f.kb 88 (kbCells f g.rv)/\Cl u (x1.heap.size+1) 92 [pt x1.heap.size]) (by kernel_rfl) ?_ (fun hH=>?_)
 · exact ⟨C2y.out,C3y.out,HS2.out.kb,C7.out⟩
 obtain ⟨x2,hx2⟩:∃ x:World,x=w2.drew:=⟨_,rfl⟩
 rw [<- hx2] at hH ⊢
 have hbx2:Below w2.heap.size w2 x2:=by rw [hx2];exact (Below.refl _ w2).drew
 have HS3:=hidI (HS2.out.grow hbx2)
 have C2z:=hidI (C2y.out.below hbx2 C2y.out.lt)
 have C3z:=hidI (C3y.out.below hbx2 C3y.out.lt)
 have CBz:=hidI (CB.out.below hbx2 CB.out.lt)
 have C7z:=hidI (C7.out.below hbx2 C7.out.lt)
 have hBx2:Below w.heap.size w x2:=hB2.trans (hbx2.mono hB2.size)
 clear hx2 hbx2 C2y C3y CB C7 HS2 hB2
 refine tq 0 hH ?_ (v:=?_) (hv:=?e)
 case e=>intro wq hSw;(try dsimp only at hSw);obtain ⟨s1,s2,s3,s4⟩:=hSw;have d1:wq.cell? ⟨w.heap.size,0,none⟩=some (.pointer (some ⟨f.kb,0,none⟩)):=s1.cell 0;have d2:wq.cell? ⟨w.heap.size+1,0,none⟩=some (.string m.nm):=s2.cell 0;have d3:wq.cell? ⟨f.kb,2,none⟩=some (.map (some f.mr)):=s3.cell 2;have d4:wq.cell? ⟨x1.heap.size+1,0,none⟩=some (.pointer (some ⟨x1.heap.size,0,none⟩)):=s4.cell 0;go_simp;try with_reducible rfl
 refine tq 1 hH ?_
 refine tq 2 hH ?_
 refine tq 3 hH ?_ (v:=?_) (hv:=?e)
 case e=>intro wq hSw;(try dsimp only at hSw);obtain ⟨s1,s2,s3,s4⟩:=hSw;have d1:wq.cell? ⟨w.heap.size,0,none⟩=some (.pointer (some ⟨f.kb,0,none⟩)):=s1.cell 0;have d2:wq.cell? ⟨w.heap.size+1,0,none⟩=some (.string m.nm):=s2.cell 0;have d3:wq.cell? ⟨f.kb,2,none⟩=some (.map (some f.mr)):=s3.cell 2;have d4:wq.cell? ⟨x1.heap.size+1,0,none⟩=some (.pointer (some ⟨x1.heap.size,0,none⟩)):=s4.cell 0;go_simp;try with_reducible rfl
 refine tq 4 hH ?_
 refine tq 5 hH ?_ (v:=?_) (hv:=?e)
 case e=>intro wq hSw;(try dsimp only at hSw);obtain ⟨s1,s2,s3,s4⟩:=hSw;have d1:wq.cell? ⟨w.heap.size,0,none⟩=some (.pointer (some ⟨f.kb,0,none⟩)):=s1.cell 0;have d2:wq.cell? ⟨w.heap.size+1,0,none⟩=some (.string m.nm):=s2.cell 0;have d3:wq.cell? ⟨f.kb,2,none⟩=some (.map (some f.mr)):=s3.cell 2;have d4:wq.cell? ⟨x1.heap.size+1,0,none⟩=some (.pointer (some ⟨x1.heap.size,0,none⟩)):=s4.cell 0;go_simp;try with_reducible rfl
 refine tq 6 hH ?_ (v:=?_) (hv:=?e)
 case e=>intro wq hSw;(try dsimp only at hSw);obtain ⟨s1,s2,s3,s4⟩:=hSw;have d1:wq.cell? ⟨w.heap.size,0,none⟩=some (.pointer (some ⟨f.kb,0,none⟩)):=s1.cell 0;have d2:wq.cell? ⟨w.heap.size+1,0,none⟩=some (.string m.nm):=s2.cell 0;have d3:wq.cell? ⟨f.kb,2,none⟩=some (.map (some f.mr)):=s3.cell 2;have d4:wq.cell? ⟨x1.heap.size+1,0,none⟩=some (.pointer (some ⟨x1.heap.size,0,none⟩)):=s4.cell 0;go_simp;try with_reducible rfl
 try simp only [qq]
 refine rq 7 (fun K hK=>?_)
 refine step_upS rfl 84 _ _ _ rfl (b:=f.mr) (n:=g.lr.length) (l:=g.lr) (k:=m.nm) (vv:=pt x1.heap.size) rfl rfl rfl HS3.out.mr underlying84 (by have:=asc_len HS0.out.ar HS0.out.only;unfold maxLen;omega) hnl rfl ?_
 intro w3 hm3 hg3
 have hmr:f.mr<w.heap.size:=mp_lt HS0.out.mr
 have hnem:∀ k,w.heap.size<=k->some k≠some f.mr:=fun k h e=>by have:=Option.some.inj e;omega
 have C2a:=hidI (C2z.out.gb hg3 (hnem _ (Nat.le_refl _)))
 have C3a:=hidI (C3z.out.gb hg3 (hnem _ (by omega)))
 have CBa:=hidI (CBz.out.gb hg3 (hnem _ (by omega)))
 have C7a:=hidI (C7z.out.gb hg3 (hnem _ (by omega)))
 have HM3:=hidI (len_put hm3)
 have HEX:Hid (Ex (fun k=>k=f.mr) w w3):=hidI ((Ex.ofB hBx2).trans' hg3)
 have hz3:x1.heap.size+1<w3.heap.size:=Nat.lt_of_lt_of_le C7z.out.lt hg3.size
 have hkbm:f.kb≠f.mr:=cells_ne_map (HS3.out.kb.cell 0) (mp_isMap HS3.out.mr).choose_spec.choose_spec
 have HKB3:=hidI ((hg3.block _ HS3.out.kb.lt (fun e=>hkbm (Option.some.inj e))).trans HS3.out.kb)
 clear hH
 refine hK.out _ _ ?_ (fun hH=>?_)
 · exact ⟨C2a.out,C3a.out,HKB3.out,C7a.out⟩
 clear hK K hH hm3 hg3 C2z C3z CBz C7z HS3 hnem HKB3 hkbm hBx2
 try simp only [qq]
 refine wpAnyH_done (by kernel_rfl) ?_ _
 have d0:w3.cell? ⟨w.heap.size+1,0,none⟩=some (.string m.nm):=C3a.out.cell 0
 have d1:w3.cell? ⟨w.heap.size+1,1,none⟩=some (.string m.tl):=C3a.out.cell 1
 have d2:w3.cell? ⟨w.heap.size+1,2,none⟩=some (.string m.ar):=C3a.out.cell 2
 go_wp2_with fail
 refine (c71 m.nm m.tl m.ar w3).mono ?_
 rintro e w4 ⟨rfl,hb4⟩
 clear d0 d1 d2
 go_upto_region 7 with fail
 have hb3:Below w3.heap.size w3 w4:=hb4
 obtain ⟨w5,hw5⟩:∃ u:World,u=w4.alloc (.cells #[.bool false,.int .i64 0,.string ⟨#[]⟩,.bool false,.string m.tl,.int .i64 0] 112):=⟨_,rfl⟩
 rw [<- hw5]
 have hb5:Below w3.heap.size w3 w5:=by rw [hw5];exact hb4.alloc hb4.size _
 have C8:Hid (T6At w5 w4.heap.size (tn m [])):=by show T6At _ _ _;rw [hw5];exact heap_alloc_new w4 _
 have C2b:=hidI (C2a.out.below hb5 C2a.out.lt)
 have C3b:=hidI (C3a.out.below hb5 C3a.out.lt)
 have CBb:=hidI (CBa.out.below hb5 CBa.out.lt)
 have C7b:=hidI (C7a.out.below hb5 C7a.out.lt)
 have hz4:w3.heap.size<=w4.heap.size:=hb4.size
 have hz5:w4.heap.size<w5.heap.size:=C8.out.lt
 have HX5:Hid (Ex (fun k=>k=f.mr) w w5):=hidI (HEX.out.andB (hb5.mono HEX.out.size))
 have HM5:=hidI (mp_below HM3.out hb5 (mp_lt HM3.out))
 have d0:w5.cell? ⟨w.heap.size+1,0,none⟩=some (.string m.nm):=C3b.out.cell 0
 have d1:w5.cell? ⟨w.heap.size+1,1,none⟩=some (.string m.tl):=C3b.out.cell 1
 have d2:w5.cell? ⟨w.heap.size+1,2,none⟩=some (.string m.ar):=C3b.out.cell 2
 clear hw5 hb5 hb4 hb3 C2a C3a CBa C7a HEX HM3
 go_wp2_with fail
 refine (c72 m.nm m.tl m.ar w5).mono ?_
 rintro e w6 ⟨b0,b1,b2,b3,rfl,hrw,hb6⟩
 clear d0 d1 d2
 go_upto_region 8 with fail
 obtain ⟨w7,hw7⟩:∃ u:World,u=w6.alloc (.cells #[.func (.func 104) #[] #[.pointer (some ⟨b0,0,none⟩),.pointer (some ⟨b1,0,none⟩),.pointer (some ⟨b2,0,none⟩),.pointer (some ⟨b3,0,none⟩)]] 133):=⟨_,rfl⟩
 rw [<- hw7]
 have hb7:Below w6.heap.size w6 w7:=by rw [hw7];exact (Below.refl _ _).alloc (Nat.le_refl _) _
 have C9:Hid (Cl w7 w6.heap.size 133 [.func (.func 104) #[] #[pt b0,pt b1,pt b2,pt b3]]):=by show Cl _ _ _ _;rw [hw7];exact cl_new w6 _ 133
 have hb57:Below w5.heap.size w5 w7:=hb6.trans (hb7.mono hb6.size)
 have HRW:=hidI (hrw.below hb7)
 have C2c:=hidI (C2b.out.below hb57 C2b.out.lt)
 have C3c:=hidI (C3b.out.below hb57 C3b.out.lt)
 have CBc:=hidI (CBb.out.below hb57 CBb.out.lt)
 have C7c:=hidI (C7b.out.below hb57 C7b.out.lt)
 have C8c:Hid (T6At w7 w4.heap.size (tn m [])):=hidI (C8.out.below hb57 C8.out.lt)
 have HX7:Hid (Ex (fun k=>k=f.mr) w w7):=hidI (HX5.out.andB (hb57.mono HX5.out.size))
 have HM7:=hidI (mp_below HM5.out hb57 (mp_lt HM5.out))
 have hz6:w5.heap.size<=w6.heap.size:=hb6.size
 have hz7:w6.heap.size<w7.heap.size:=C9.out.lt
 clear hw7 hb7 hb6 hb57 hrw C2b C3b CBb C7b C8 HX5 HM5
 go_upto_region 10 with fail
 obtain ⟨w8,hw8⟩:∃ u:World,u=w7.alloc (.cells #[.func (.func 73) #[] #[.pointer (some ⟨x1.heap.size+1,0,none⟩),.pointer (some ⟨w4.heap.size,0,none⟩),.pointer (some ⟨w6.heap.size,0,none⟩),.pointer (some ⟨w.heap.size,0,none⟩),.pointer (some ⟨w7.heap.size,0,none⟩)]] 135):=⟨_,rfl⟩
 rw [<- hw8]
 have hb8:Below w7.heap.size w7 w8:=by rw [hw8];exact (Below.refl _ _).alloc (Nat.le_refl _) _
 obtain ⟨x,HXD⟩:∃ x:Ru,Hid (x=⟨⟨m,x1.heap.size,x1.heap.size+1,w4.heap.size,w6.heap.size,w.heap.size,w7.heap.size,b0,b1,b2,b3⟩,[],.slice none 0 0,.slice none 0 0,.slice none 0 0,.slice none 0 0,false,⟨#[]⟩,⟨6,⟨#[]⟩⟩,.que,[]⟩):=⟨_,rfl⟩
 have C10:Hid (Cl w8 w7.heap.size 135 [x.k.go]):=by show Cl _ _ _ _;rw [hw8,HXD.out];exact cl_new w7 _ 135
 have C2d:=hidI (C2c.out.below hb8 C2c.out.lt)
 have C7d:=hidI (C7c.out.below hb8 C7c.out.lt)
 have hsb:=HS0.out.sz
 have HRU:Hid (RuAt f.base f.kb x (tn x.k.m x.ls) (rsF x.k.m x.ls) w8):=by
  have hr:=HRW.out.below hb8
  have hle5:f.base<=w5.heap.size:=by omega
  rw [HXD.out] at C10 ⊢
  exact ⟨CBc.out.below hb8 CBc.out.lt,C7d.out,C8c.out.below hb8 C8c.out.lt,C9.out.below hb8 C9.out.lt,C2d.out,C10.out,⟨Nat.le_trans hle5 hr.le0,Nat.le_trans hle5 hr.le1,Nat.le_trans hle5 hr.le2,Nat.le_trans hle5 hr.le3,hr.h0,hr.h1,hr.h2,hr.h3,World.ownsRow_nil _ _ _ _,World.ownsRow_nil _ _ _ _⟩,World.ownsRow_nil _ _ _ _⟩
 have hpk:=getK_put HS0.out.ar m.nm (pt x1.heap.size)
 have HX8:Hid (Ex (fun k=>k=f.mr) w w8):=hidI (HX7.out.andB (hb8.mono HX7.out.size))
 have HFP:Hid (∀ k,FPx x k->w.heap.size<=k):=by
  have hr:=HRW.out
  intro k hk
  rw [HXD.out] at hk
  rcases hk with hk | hk | hk | hk
  · simp only [List.mem_cons,List.not_mem_nil,or_false] at hk
    rcases hk with rfl | rfl | rfl | rfl | rfl | rfl | rfl | rfl | rfl | rfl
    all_goals first | omega | (have:=hr.le0;omega) | (have:=hr.le1;omega) | (have:=hr.le2;omega) | (have:=hr.le3;omega)
  · cases hk
  · cases hk
  cases hk
 have HG1:Hid (Shp f { g with ow:=ext g.ow w.heap.size (.run g.rs.length),rs:=g.rs++[x],lr:=insK (m.nm,pt x1.heap.size) (g.lr.filter fun p=>!decide (p.1=m.nm)) } w8):=by
  have h1:=HS0.out.ext w.heap.size (Nat.le_refl _) (.run g.rs.length)
  refine h1.new (x:=x) (by rw [HXD.out];exact HNK.out) (HX8.out.mono fun k hk e=>?_) (mp_below HM7.out hb8 (mp_lt HM7.out)) hpk.1 (fun n=>?_) HRU.out (fun k hk=>ext_ge (HFP.out k hk)) (by rw [HXD.out]) (by rw [HXD.out])
  · show ext g.ow w.heap.size _ k=_
    rw [ext_lt hk,e]
    exact HS0.out.omr
  rw [hpk.2 n,HXD.out]
 have HB8:Hid (Below f.base w w8):=hidI (HX8.out.below (fun k e=>by rw [e];exact HS0.out.oge _ _ HS0.out.omr) hsb)
 have HOFF:Hid (∀ u,Below w8.heap.size w8 u->OffRow u f.base 1 g.rv (g.q.map (It.v g.ks))):=fun u hb=>by
  have h8:Below w.heap.size w w8\/True:=.inr trivial
  refine HS0.out.rd.keep fun k e hl=>?_
  have hx:=HX8.out.block k hl (fun e2=>by
   have:=HS0.out.ord k e
   rw [e2,HS0.out.omr] at this
   cases this)
  exact (hb.block k (by have:=HX8.out.size;omega)).trans hx
 have hz8:w7.heap.size<w8.heap.size:=C10.out.lt
 clear hw8 hb8 C2c C3c CBc C7c C8c C9 HRW HX7 HM7
 refine wp_region_L (S:=fun u=>Cl u w.heap.size 46 [pt f.kb]/\Cl u f.kb 88 (kbCells f g.rv)) 10 (by kernel_rfl) ?_ (fun hH=>?_)
 · exact ⟨C2d.out,HG1.out.kb⟩
 obtain ⟨y0,hy0⟩:∃ x:World,x=w8.drew:=⟨_,rfl⟩
 rw [<- hy0] at hH ⊢
 have hby:Below w8.heap.size w8 y0:=by rw [hy0];exact (Below.refl _ w8).drew
 have HBW:=hidI hby
 have HGY:=hidI (HG1.out.grow hby)
 have C7y:=hidI (C7d.out.below hby C7d.out.lt)
 have C2y:=hidI (C2d.out.below hby C2d.out.lt)
 have zy:w8.heap.size<=y0.heap.size:=hby.size
 have HBY:Hid (Below f.base w y0):=hidI (HB8.out.trans (hby.mono (by have:=HS0.out.sz;have:=HB8.out.size;omega)))
 clear hy0 hby
 refine lq 0 hH ?_ (v:=?_) (hv:=?e)
 case e=>intro wq hSw;(try dsimp only at hSw);have d1:wq.cell? ⟨w.heap.size,0,none⟩=some (.pointer (some ⟨f.kb,0,none⟩)):=hSw.1.cell 0;have d3:wq.cell? ⟨f.kb,4,none⟩=some g.rv:=hSw.2.cell 4;go_simp;try with_reducible rfl
 try simp only [qq]
 refine lq 1 hH ?_ (v:=?_) (hv:=?e)
 case e=>intro wq hSw;(try dsimp only at hSw);have d1:wq.cell? ⟨w.heap.size,0,none⟩=some (.pointer (some ⟨f.kb,0,none⟩)):=hSw.1.cell 0;have d3:wq.cell? ⟨f.kb,4,none⟩=some g.rv:=hSw.2.cell 4;go_simp;try with_reducible rfl
 try simp only [qq]
 refine lq 2 hH ?_
 try simp only [qq]
 refine lq 3 hH ?_
 try simp only [qq]
 refine lq 4 hH ?_ (v:=?_) (hv:=?e)
 case e=>intro wq hSw;(try dsimp only at hSw);have d1:wq.cell? ⟨w.heap.size,0,none⟩=some (.pointer (some ⟨f.kb,0,none⟩)):=hSw.1.cell 0;have d3:wq.cell? ⟨f.kb,4,none⟩=some g.rv:=hSw.2.cell 4;go_simp;try with_reducible rfl
 try simp only [qq]
 refine lq 5 hH ?_
 try simp only [qq]
 refine lr (i:=6) (o:=⟨some 48,.buildSlice 86 1 #[(0,.tmp 47)],86,_,_,none⟩) rfl (by decide) (by kernel_rfl) (fun K hK=>?_)
 go_simp
 obtain ⟨y1,hy1⟩:∃ x:World,x=y0.alloc (.cells #[.func (.func 76) #[] #[.pointer (some ⟨w.heap.size,0,none⟩),.pointer (some ⟨x1.heap.size+1,0,none⟩),.pointer (some ⟨w4.heap.size,0,none⟩),.pointer (some ⟨w7.heap.size,0,none⟩)]] 1):=⟨_,rfl⟩
 rw [<- hy1]
 have hby1:Below y0.heap.size y0 y1:=by rw [hy1];exact (Below.refl _ _).alloc (Nat.le_refl _) _
 have HIT:Hid (y1.cell? ⟨y0.heap.size,0,none⟩=some x.k.be):=by show _=_;rw [hy1,HXD.out];exact (cl_new y0 [_] 1).cell 0
 have HGZ:=hidI (HGY.out.grow hby1)
 have HOF1:=hidI (HOFF.out y1 (HBW.out.trans (hby1.mono HBW.out.size)))
 have C2z:=hidI (C2y.out.below hby1 C2y.out.lt)
 have C7z:=hidI (C7y.out.below hby1 C7y.out.lt)
 clear hy1 hH
 refine hK.out _ _ ?_ (fun hH=>?_)
 · exact ⟨C2z.out,HGZ.out.kb⟩
 clear hK K
 try simp only [qq]
 refine lr (i:=7) (o:=⟨some 49,.call ⟨.builtin .append,#[.tmp 46,.tmp 48],#[86,86]⟩,86,_,_,none⟩) rfl (by decide) (by kernel_rfl) (fun K hK=>?_)
 refine st_off rfl _ _ 86 rfl f.base 1 underlying86 inf1 g.rv (g.q.map (It.v g.ks)) rfl HOF1.out ⟨y0.heap.size,0,none⟩ x.k.be rfl HIT.out rfl (by simp;omega) HGZ.out.sz ?_
 intro rv' y2 O2 g2 at2
 have hro:∀ k,g.rv.ownBlock=some k->k<w8.heap.size/\g.ow k=some .rd:=fun k e=>by
  obtain ⟨_,cur,hc⟩:=HS0.out.rd.lt e
  have:=(Array.getElem?_eq_some_iff.1 hc).1
  have:=HB8.out.size
  exact ⟨by omega,HS0.out.ord k e⟩
 have HKB2:Hid (Cl y2 f.kb 88 (kbCells f g.rv)):=hidI (HGZ.out.kb.gb g2 (fun e=>by
  have:=(hro f.kb e.symm).2
  rw [HS0.out.okb] at this
  cases this))
 have HC72:Hid (Cl y2 (x1.heap.size+1) 92 [pt x1.heap.size]):=hidI (C7z.out.gb g2 (fun e=>by
  obtain ⟨_,cur,hc⟩:=HS0.out.rd.lt e.symm
  have:=(Array.getElem?_eq_some_iff.1 hc).1
  omega))
 have HC22:Hid (Cl y2 w.heap.size 46 [pt f.kb]):=hidI (C2z.out.gb g2 (fun e=>by
  obtain ⟨_,cur,hc⟩:=HS0.out.rd.lt e.symm
  have:=(Array.getElem?_eq_some_iff.1 hc).1
  omega))
 have HO2:=hidI O2
 have HG2:=hidI g2
 have HA2:=hidI at2
 clear O2 g2 at2 hH
 refine hK.out _ _ ?_ (fun hH=>?_)
 · exact ⟨HC22.out,HKB2.out⟩
 clear hK K
 try simp only [qq]
 refine lr (i:=8) (o:=⟨some 50,.nilCheck (.tmp 42),0,_,_,none⟩) rfl (by decide) (by kernel_rfl) (fun K hK=>?_)
 go_simp
 clear hH
 refine hK.out _ _ ?_ (fun hH=>?_)
 · exact ⟨HC22.out,HKB2.out⟩
 clear hK K
 try simp only [qq]
 refine lq 9 hH ?_
 try simp only [qq]
 refine lz (o:=⟨none,.store 86 (.tmp 51) (.tmp 49),0,_,_,none⟩) rfl (by kernel_rfl) (fun K hK=>?_)
 have z4:y2.cell? ⟨f.kb,4,none⟩=some g.rv:=HKB2.out.cell 4
 have zf:y2.frozen? ⟨f.kb,4,none⟩=false:=HKB2.out.opn 4
 obtain ⟨ra,rc,hrv⟩:=HO2.out.form
 subst hrv
 go_simp
 clear hH
 refine hK.out _ _ ?_
 clear hK K
 try simp only [qq]
 refine wpL_done (by kernel_rfl) ?_ _
 have hne7:x1.heap.size+1≠f.kb:=by have:=HS0.out.kb.lt;omega
 have HKB3:=hidI (HKB2.out.set 4 (.slice ra (g.q.length+1) rc))
 have HC73:=hidI (HC72.out.on (on_set y2 f.kb 4 (.slice ra (g.q.length+1) rc)) hne7)
 have HON:=hidI (on_set y2 f.kb 4 (.slice ra (g.q.length+1) rc))
 generalize (y2.setCell ⟨f.kb,4,none⟩ (.slice ra (g.q.length+1) rc))=y3 at*
 have j0:y3.cell? ⟨x1.heap.size+1,0,none⟩=some (.pointer (some ⟨x1.heap.size,0,none⟩)):=HC73.out.cell 0
 have HSF:Hid (Shp f { g with ow:=ext (ext g.ow w.heap.size (.run g.rs.length)) y0.heap.size .rd,rs:=g.rs++[x],lr:=insK (m.nm,pt x1.heap.size) (g.lr.filter fun p=>!decide (p.1=m.nm)),q:=g.q++[.go g.rs.length],rv:=.slice ra (g.q.length+1) rc } y3):=by
  have h1:=HGY.out.ext y0.heap.size (Nat.le_refl _) .rd
  have hks:((g.rs++[x]).map (·.k)).getD g.rs.length rkz=x.k:=by simp [List.getD]
  have hitv:∀ it∈g.q,It.v ((g.rs++[x]).map (·.k)) it=It.v g.ks it:=fun it hq=>by
   cases it with
   | go i=>have hq':i<g.rs.length:=HS0.out.qlt _ hq;show Rk.be _=Rk.be _;rw [ks_app hq'];rfl
   | re=>rfl
  have hmap:(g.q++[It.go g.rs.length]).map (It.v ((g.rs++[x]).map (·.k)))=g.q.map (It.v g.ks)++[x.k.be]:=by
   rw [List.map_append,List.map_congr_left hitv]
   show _++[Rk.be _]=_
   rw [hks]
  have hrow:∀ k,(Value.slice ra (g.q.length+1) rc).ownBlock=some k->ext (ext g.ow w.heap.size (.run g.rs.length)) y0.heap.size .rd k=some .rd:=fun k e=>by
   have e':(Value.slice ra ((List.map (It.v g.ks) g.q++[x.k.be]).length) rc).ownBlock=some k:=by cases ra with | none=>cases e | some ad=>exact e
   rcases HA2.out with h | h
   · rw [h] at e'
     obtain ⟨h1,h2⟩:=hro k e'
     have hkw:k<w.heap.size:=by obtain ⟨_,cur,hc⟩:=HS0.out.rd.lt e';exact (Array.getElem?_eq_some_iff.1 hc).1
     rw [ext_lt (by omega),ext_lt hkw,h2]
   rw [h] at e'
   have e':=Option.some.inj e'
   have:=hby1.size
   exact ext_ge (by omega)
  have hwf:y0.heap.size<=y2.heap.size:=Nat.le_trans hby1.size HG2.out.size
  have hex:Ex (fun k=>ext (ext g.ow w.heap.size (.run g.rs.length)) y0.heap.size .rd k=some .kb\/ext (ext g.ow w.heap.size (.run g.rs.length)) y0.heap.size .rd k=some .rd) y0 y3:=by
   refine ⟨HON.out.os.trans (HG2.out.os.trans hby1.os),HON.out.tape.trans (HG2.out.tape.trans hby1.tape),HON.out.output.trans (HG2.out.output.trans hby1.output),by rw [HON.out.size];exact hwf,fun k hk hn=>?_⟩
   have hkk:k≠f.kb:=fun e=>hn (.inl (by rw [ext_lt hk,e,ext_lt HS0.out.kb.lt];exact HS0.out.okb))
   have hkr:some k≠g.rv.ownBlock:=fun e=>hn (.inr (by
    obtain ⟨_,h2⟩:=hro k e.symm
    have hkw:k<w.heap.size:=by obtain ⟨_,cur,hc⟩:=HS0.out.rd.lt e.symm;exact (Array.getElem?_eq_some_iff.1 hc).1
    rw [ext_lt hk,ext_lt hkw,h2]))
   exact (HON.out.block k hkk).trans ((HG2.out.block k (by have:=hby1.size;omega) hkr).trans (hby1.block k hk))
  refine h1.rdy (rv':=.slice ra (g.q.length+1) rc) (q':=g.q++[.go g.rs.length]) hex HKB3.out ?_ hrow (fun it hq=>?_) (fun it hq=>?_)
  · show OffRow y3 f.base 1 _ ((g.q++[It.go g.rs.length]).map (It.v ((g.rs++[x]).map (·.k))))
    rw [hmap]
    have e1:(List.map (It.v g.ks) g.q++[x.k.be]).length=g.q.length+1:=by simp
    have hO:=HO2.out
    rw [e1] at hO
    refine hO.keep fun k e hl=>HON.out.block k (fun e2=>?_)
    have:=hrow k e
    rw [e2] at this
    rw [ext_lt (by have:=HS0.out.kb.lt;omega),ext_lt HS0.out.kb.lt,HS0.out.okb] at this
    cases this
  · rcases List.mem_append.1 hq with hq | hq
    · obtain ⟨k1,k2⟩:=h1.its it hq
      refine ⟨?_,k2⟩
      cases it with
      | go i=>trivial
      | re i r b7 b5=>
       have g1:∀ k,k<y0.heap.size->ext (ext g.ow w.heap.size (.run g.rs.length)) y0.heap.size .rd k=none->y3.heap[k]?=y0.heap[k]?:=fun k hk he=>hex.block k hk (by rw [he];simp)
       exact ⟨(g1 _ k1.1.lt k2.1).trans k1.1,(g1 _ k1.2.lt k2.2).trans k1.2⟩
    obtain rfl:=List.mem_singleton.1 hq
    exact ⟨trivial,trivial⟩
  show it.i<(g.rs++[x]).length
  rw [List.length_append]
  rcases List.mem_append.1 hq with hq | hq
  · have:=HS0.out.qlt it hq;omega
  obtain rfl:=List.mem_singleton.1 hq
  show g.rs.length<_
  simp
 have HBF:Hid (Below f.base w y3):=hidI (HBY.out.trans ⟨HON.out.os.trans (HG2.out.os.trans hby1.os),HON.out.tape.trans (HG2.out.tape.trans hby1.tape),HON.out.output.trans (HG2.out.output.trans hby1.output),by rw [HON.out.size];exact Nat.le_trans hby1.size HG2.out.size,fun k hk=>by
  have hk0:k<y0.heap.size:=by have:=HBY.out.size;omega
  have hkk:k≠f.kb:=fun e=>by have:=HS0.out.oge _ _ HS0.out.okb;omega
  have hkr:some k≠g.rv.ownBlock:=fun e=>by have:=HS0.out.oge _ _ (hro k e.symm).2;omega
  exact (HON.out.block k hkk).trans ((HG2.out.block k (by have:=hby1.size;omega) hkr).trans (hby1.block k hk0))⟩)
 have HKP:Hid (∀ k,k<w.heap.size->g.ow k=none->y3.heap[k]?=w.heap[k]?):=fun k hk he=>by
  have hk8:k<w8.heap.size:=Nat.lt_of_lt_of_le hk HX8.out.size
  have hkk:k≠f.kb:=fun e=>by rw [e,HS0.out.okb] at he;cases he
  have hkr:some k≠g.rv.ownBlock:=fun e=>by rw [(hro k e.symm).2] at he;cases he
  have hkm:k≠f.mr:=fun e=>by rw [e,HS0.out.omr] at he;cases he
  exact (HON.out.block k hkk).trans ((HG2.out.block k (by have:=hby1.size;omega) hkr).trans ((hby1.block k (by omega)).trans ((HBW.out.block k hk8).trans (HX8.out.block k hk hkm))))
 have HXF:Hid (x.k.m=m/\x.ls=[]/\x.st=false/\x.wl=[]/\x.sta=.que/\x.r=⟨6,⟨#[]⟩⟩/\x.k.B=x1.heap.size):=by show _/\_;rw [HXD.out];exact ⟨rfl,rfl,rfl,rfl,rfl,rfl,rfl⟩
 have HNN:Hid (∀ (j:Nat) y,g.rs[j]?=some y->y.k.m.nm≠m.nm):=fun j y hy e=>by
  have:=HS0.out.key j y hy
  rw [e,HNK.out] at this
  cases this
 clear hro hby1 HON HKB3 HKB2 HGZ HGY HO2 HG2 HA2 hne7
 go_wp2
 go_ret
 exact ⟨_,g.rs.length,x,by rw [HXF.out.2.2.2.2.2.2];rfl,HSF.out,.inr ⟨rfl,HNN.out,rfl,rfl,HXF.out.1,HXF.out.2.1,HXF.out.2.2.1,HXF.out.2.2.2.1,HXF.out.2.2.2.2.1,HXF.out.2.2.2.2.2.1⟩,by simp,HBF.out,fun k hk he=>⟨HKP.out k hk he,by show ext (ext g.ow w.heap.size _) y0.heap.size .rd k=none;rw [ext_lt (by omega),ext_lt hk];exact he⟩⟩
end Go.Proofs.YthfmmimmfcnhmaaGreatDoor
namespace Go.Proofs.YthfmmimmfcnhmaaGreatDoor
open Proofs.Tryz
open Go.RowKit
open G (IsPT)
open G.T (F2 f2z treeOk FilesAt)
variable {u u' w:World} {B base i j k kb n:Nat} {f:Fx} {g:Gh} {rv' v:Value} {x x' y:Ru} {t:TN} {s:RS} {it:It} {l rs2:List Ru} {E:Env} {ac:Option Nat} {its q':List It}
theorem look68 {b:Nat} {l:List (ByteArray×Value)} {k:ByteArray} (h:w.ownsMap prog 9 tokR b n (mapD l)) (hk:k.size<=maxLen):(Instr.lookup 85 (.map (some b)) (.string k) false).run prog w=.ok ((getK l k).getD (.slice none 0 0)) w:=look_S h underlying85 (Tryz.zeroValue175 w) hk
def extN (ow:Nat->Option Ow) (n:Nat) (k:Nat):Option Ow:=if k<n then ow k else none
theorem extN_lt {ow:Nat->Option Ow} (h:k<n):extN ow n k=ow k:=if_pos h
theorem extN_ge {ow:Nat->Option Ow} (h:n<=k):extN ow n k=none:=if_neg (by omega)
theorem Shp.extN (h:Shp f g w) (n:Nat) (hn:w.heap.size<=n):Shp f { g with ow:=extN g.ow n } w:=
 h.reown _ (fun k hk=>extN_lt (by omega)) (fun k o' e=>by
  rcases Nat.lt_or_ge k n with h1 | h1
  · rw [extN_lt h1] at e;exact h.oge k o' e
  rw [extN_ge h1] at e;cases e)
theorem row1_form {e:TypeId} {xs:List Value} (h:w.ownsRow base e 1 v n xs):∃ a c,v=.slice a n c/\∀ j u,xs[j]?=some u->∃ g,a=some ⟨g,0,none⟩/\w.cell? ⟨g,j,none⟩=some u:=by
 have h':=h
 rcases h.2 with ⟨hv,h0⟩ | ⟨g,cap,cur,hv,_⟩
 · refine ⟨none,0,by rw [hv,h0],fun j u e=>?_⟩
   have:=h.1
   have hj:=(List.getElem?_eq_some_iff.1 e).1
   omega
 refine ⟨some ⟨g,0,none⟩,cap,hv,fun j u e=>⟨g,rfl,?_⟩⟩
 subst hv
 have hj:=(List.getElem?_eq_some_iff.1 e).1
 rw [h'.cellAt j (by have:=h'.1;omega)]
 exact e
theorem RuAt.setB (h:RuAt base kb x t s u) (ho:OnB x.k.B u u') (hc:Cl u' x.k.B 95 x'.cells) (e1:x'.k=x.k) (e2:x'.ls=x.ls) (e3:x'.lv=x.lv) (e4:x'.v1=x.v1) (e5:x'.v2=x.v2):RuAt base kb x' t s u':=by
 have k1:∀ {b:Nat} {t:TypeId} {xs:Array Value},u.heap[b]?=some (.cells xs t (0,0))->t≠95->u'.heap[b]?=some (.cells xs t (0,0)):=fun hb ht=>(ho.block _ (blk_ne hb h.hB ht)).trans hb
 have k2:∀ {e:TypeId} {size n:Nat} {v:Value} {xs:List Value},u.ownsRow base e size v n xs->e≠95->u'.ownsRow base e size v n xs:=fun hr he=>ownsRow_keep hr fun k hk=>by
  obtain ⟨_,cur,hcu⟩:=own_block hr hk
  rw [k1 hcu he,hcu]
 refine ⟨by rw [e1];exact hc,by rw [e1];exact k1 h.h7 (by decide),by rw [e1];exact k1 h.h8 (by decide),by rw [e1];exact k1 h.h9 (by decide),by rw [e1];exact k1 h.h2 (by decide),by rw [e1];exact k1 h.h10 (by decide),?_,by rw [e2,e3];exact k2 h.lk (by decide)⟩
 rw [e1,e4,e5]
 exact ⟨h.rw.le0,h.rw.le1,h.rw.le2,h.rw.le3,k1 h.rw.h0 (by decide),k1 h.rw.h1 (by decide),k1 h.rw.h2 (by decide),k1 h.rw.h3 (by decide),k2 h.rw.o1 (by decide),k2 h.rw.o2 (by decide)⟩
theorem FPx.of (e1:x'.k=x.k) (e3:x'.lv=x.lv) (e4:x'.v1=x.v1) (e5:x'.v2=x.v2) (h:FPx x' k):FPx x k:=by
 unfold FPx at h ⊢
 rw [e1,e3,e4,e5] at h
 exact h
theorem OnB.ex {S:Nat->Prop} (h:OnB B u u') (hB:S B):Ex S u u':=⟨h.os,h.tape,h.output,Nat.le_of_eq h.size.symm,fun k _ hn=>h.block k (fun e=>hn (by rw [e];exact hB))⟩
theorem shp_push {y0 y1 y2 y3:World} (h:Shp f g y0) (hb:Below y0.heap.size y0 y1) (hO:OffRow y2 f.base 1 rv' (g.q.map (It.v g.ks)++[it.v g.ks])) (hg:y1.grownBy y2 g.rv.ownBlock) (hat:rv'.ownBlock=g.rv.ownBlock\/rv'.ownBlock=some y1.heap.size) (hon:OnB f.kb y2 y3) (hkb:Cl y3 f.kb 88 (kbCells f rv')) (hit:it.At g.ks y0/\it.own g.ow) (hil:it.i<g.rs.length):
 Shp f { g with ow:=ext g.ow y0.heap.size .rd,q:=g.q++[it],rv:=rv' } y3/\Below f.base y0 y3/\∀ k,k<y0.heap.size->g.ow k=none->y3.heap[k]?=y0.heap[k]?:=by
 have hro:∀ k,g.rv.ownBlock=some k->k<y0.heap.size/\g.ow k=some .rd:=fun k e=>by
  obtain ⟨_,cur,hc⟩:=h.rd.lt e
  exact ⟨(Array.getElem?_eq_some_iff.1 hc).1,h.ord k e⟩
 have h1:=h.ext y0.heap.size (Nat.le_refl _) .rd
 have hrow:∀ k,rv'.ownBlock=some k->ext g.ow y0.heap.size .rd k=some .rd:=fun k e=>by
  rcases hat with h | h
  · rw [h] at e
    obtain ⟨h1,h2⟩:=hro k e
    rw [ext_lt h1,h2]
  rw [h] at e
  have e:=Option.some.inj e
  have:=hb.size
  exact ext_ge (by omega)
 have hwf:y0.heap.size<=y2.heap.size:=Nat.le_trans hb.size hg.size
 have hex:Ex (fun k=>ext g.ow y0.heap.size .rd k=some .kb\/ext g.ow y0.heap.size .rd k=some .rd) y0 y3:=by
  refine ⟨hon.os.trans (hg.os.trans hb.os),hon.tape.trans (hg.tape.trans hb.tape),hon.output.trans (hg.output.trans hb.output),by rw [hon.size];exact hwf,fun k hk hn=>?_⟩
  have hkk:k≠f.kb:=fun e=>hn (.inl (by rw [ext_lt hk,e];exact h.okb))
  have hkr:some k≠g.rv.ownBlock:=fun e=>hn (.inr (by rw [ext_lt hk,(hro k e.symm).2]))
  exact (hon.block k hkk).trans ((hg.block k (by have:=hb.size;omega) hkr).trans (hb.block k hk))
 have hno:∀ k,k<y0.heap.size->g.ow k=none->y3.heap[k]?=y0.heap[k]?:=fun k hk he=>hex.block k hk (by rw [ext_lt hk,he];simp)
 refine ⟨h1.rdy (rv':=rv') (q':=g.q++[it]) hex hkb ?_ hrow (fun jt hq=>?_) (fun jt hq=>?_),hex.below (fun k e=>?_) h.sz,hno⟩
 · show OffRow y3 f.base 1 _ ((g.q++[it]).map (It.v g.ks))
   rw [List.map_append]
   refine hO.keep fun k e hl=>hon.block k (fun e2=>?_)
   have:=hrow k e
   rw [e2,ext_lt h.kb.lt,h.okb] at this
   cases this
 · have key:∀ jt:It,jt.At g.ks y0/\jt.own g.ow->jt.At g.ks y3/\jt.own (ext g.ow y0.heap.size .rd):=fun jt hj=>by
    cases jt with
    | go i=>exact ⟨trivial,trivial⟩
    | re i r b7 b5=>exact ⟨⟨(hno _ hj.1.1.lt hj.2.1).trans hj.1.1,(hno _ hj.1.2.lt hj.2.2).trans hj.1.2⟩,⟨(ext_lt hj.1.1.lt).trans hj.2.1,(ext_lt hj.1.2.lt).trans hj.2.2⟩⟩
   rcases List.mem_append.1 hq with hq | hq
   · exact key jt (h.its jt hq)
   obtain rfl:=List.mem_singleton.1 hq
   exact key _ hit
 · rcases List.mem_append.1 hq with hq | hq
   · exact h.qlt jt hq
   obtain rfl:=List.mem_singleton.1 hq
   exact hil
 rcases e with e | e <;> exact h1.oge k _ e
theorem c74 (f:Fx) (g:Gh) (i:Nat) (x:Ru) (r:R2) (w:World) (hs:Shp f g w) (hi:g.rs[i]?=some x) (hq:g.q.length+x.wl.length<=1000) (hm:x.k.m.nm.size<=20):
 Calls prog 74 #[pt f.kb,pt x.k.B,.agg #[.int .i64 r.code,.string r.tx]] w fun e w'=>e=.returned (.tuple #[])/\∃ (its:List It) (rv':Value) (ow':Nat->Option Ow),Shp f { g with rs:=g.rs.set i { x with r:=r },q:=g.q++its,rv:=rv',ow:=ow' } w'/\its.map It.i=x.wl/\(∀ it∈its,∃ j b7 b5,it=.re j r b7 b5)/\Below f.base w w'/\∀ k,k<w.heap.size->g.ow k=none->w'.heap[k]?=w.heap[k]?/\ow' k=none:=by
 have hnl:x.k.m.nm.size<=maxLen:=by unfold maxLen;omega
 have HS0:=hidI hs
 have HI:=hidI hi
 obtain ⟨wa,wc,hwv,hwc⟩:=row1_form (hs.wr i x hi)
 have HWV:Hid ((getK g.lw x.k.m.nm).getD (.slice none 0 0)=.slice wa x.wl.length wc):=hidI ((hs.kw i x hi).trans hwv)
 obtain ⟨w1,hw1⟩:∃ u:World,u=w.alloc (.cells #[.int .i64 r.code,.string r.tx] 53):=⟨_,rfl⟩
 have HW1:=hidI hw1
 have hb1:Below w.heap.size w w1:=by rw [hw1];exact (Below.refl _ _).alloc (Nat.le_refl _) _
 have C5:Hid (Cl w1 w.heap.size 53 [.int .i64 r.code,.string r.tx]):=by show Cl _ _ _ _;rw [hw1];exact cl_new w _ 53
 have HS1:=hidI (((hs.extN w.heap.size (Nat.le_refl _)).grow hb1))
 have HB1:=hidI ((hs.ru i x hi).hB.below hb1 (hs.ru i x hi).hB.lt)
 have HXW:=hidI hwv
 clear hs hi hwv hwc hw1
 have d6:w1.cell? ⟨x.k.B,6,none⟩=some (.int .i64 x.r.code):=HB1.out.cell 6
 have d7:w1.cell? ⟨x.k.B,7,none⟩=some (.string x.r.tx):=HB1.out.cell 7
 have e6:=HB1.out.opn 6
 have e7:=HB1.out.opn 7
 have r0:w1.cell? ⟨w.heap.size,0,none⟩=some (.int .i64 r.code):=C5.out.cell 0
 have r1:w1.cell? ⟨w.heap.size,1,none⟩=some (.string r.tx):=C5.out.cell 1
 go_enter func74,ntmps74
 rw [show pt f.kb=.pointer (some ⟨f.kb,0,none⟩) from rfl,show pt x.k.B=.pointer (some ⟨x.k.B,0,none⟩) from rfl]
 go_upto_region 1 with fail
 rw [<- HW1.out]
 go_upto_region 2 with fail
 have hne:w.heap.size≠x.k.B:=by have:=(HS0.out.ru i x HI.out).hB.lt;omega
 have hon:=(on_set w1 x.k.B 6 (.int .i64 r.code)).trans (on_set _ x.k.B 7 (.string r.tx))
 have hc2:Cl ((w1.setCell ⟨x.k.B,6,none⟩ (.int .i64 r.code)).setCell ⟨x.k.B,7,none⟩ (.string r.tx)) x.k.B 95 ({ x with r:=r }:Ru).cells:=(HB1.out.set 6 (.int .i64 r.code)).set 7 (.string r.tx)
 generalize ((w1.setCell ⟨x.k.B,6,none⟩ (.int .i64 r.code)).setCell ⟨x.k.B,7,none⟩ (.string r.tx))=w2 at*
 have HSA:Hid (Shp f { g with ow:=extN g.ow w.heap.size,rs:=g.rs.set i { x with r:=r } } w2):=by
  have hru:=HS1.out.ru i x HI.out
  refine HS1.out.run (x':={ x with r:=r }) HI.out (hon.ex (S:=fun k=>extN g.ow w.heap.size k=some (.run i)) (HS1.out.oru i x HI.out _ (.inl (by simp)))) (hru.setB hon hc2 rfl rfl rfl rfl rfl) (fun k hk=>HS1.out.oru i x HI.out k (FPx.of rfl rfl rfl rfl hk)) rfl rfl rfl
 have C5b:=hidI (C5.out.on hon hne)
 have HKP:Hid (∀ k,k<w.heap.size->g.ow k=none->w2.heap[k]?=w.heap[k]?):=fun k hk he=>(hon.block k (fun e=>by rw [e,HS0.out.oru i x HI.out _ (.inl (by simp))] at he;cases he)).trans (hb1.block k hk)
 have HBL:Hid (Below f.base w w2):=hidI ((hb1.mono HS0.out.sz).trans (hon.below (by exact HS0.out.oge _ _ (HS0.out.oru i x HI.out _ (.inl (by simp))))))
 clear d6 d7 e6 e7 r0 r1 hon hc2 HB1 C5 HS1 hb1 HW1
 refine wp_region_held_drew (S:=fun u=>Cl u f.kb 88 (kbCells f g.rv)/\Cl u x.k.B 95 ({ x with r:=r }:Ru).cells/\u.ownsMap prog 9 tokR f.mw g.lw.length (mapD g.lw)) (by kernel_rfl) ?_ (fun hH=>?_)
 · exact ⟨HSA.out.kb,(HSA.out.ru i _ (set_get HI.out)).hB,HSA.out.mw⟩
 refine tq 0 hH ?_
 refine tq 1 hH ?_
 refine tq 2 hH ?_
 refine tq 3 hH ?_ (v:=?_) (hv:=?e)
 case e=>intro wq hSw;(try dsimp only at hSw);obtain ⟨s1,s2,s3⟩:=hSw;have d1:wq.cell? ⟨f.kb,3,none⟩=some (.map (some f.mw)):=s1.cell 3;have d2:wq.cell? ⟨x.k.B,0,none⟩=some (.string x.k.m.nm):=s2.cell 0;go_simp;try with_reducible rfl
 refine tq 4 hH ?_
 refine tq 5 hH ?_
 refine tq 6 hH ?_
 refine tq 7 hH ?_
 refine tq 8 hH ?_ (v:=?_) (hv:=?e)
 case e=>intro wq hSw;(try dsimp only at hSw);obtain ⟨s1,s2,s3⟩:=hSw;have d1:wq.cell? ⟨f.kb,3,none⟩=some (.map (some f.mw)):=s1.cell 3;have d2:wq.cell? ⟨x.k.B,0,none⟩=some (.string x.k.m.nm):=s2.cell 0;go_simp;try with_reducible rfl
 try simp only [qq]
 refine tk (i:=9) (oi:=⟨some 22,.lookup 85 (.tmp 16) (.tmp 21) false,175,_,_,none⟩) (v:=.slice wa x.wl.length wc) rfl (by kernel_rfl) rfl ?e hH ?_
 case e=>intro wq hSw;exact ex_look 85 _ _ false rfl (v:=.map (some f.mw)) (z:=.string x.k.m.nm) rfl rfl ((look68 hSw.2.2 hnl).trans (by rw [HWV.out]))
 refine tq 10 hH ?_
 refine tq 11 hH ?_
 try simp only [qq]
 refine wpAnyH_done (by kernel_rfl) ?_ _
 obtain ⟨x2,hx2⟩:∃ x:World,x=w2.drew:=⟨_,rfl⟩
 rw [<- hx2]
 have hbx:Below w2.heap.size w2 x2:=by rw [hx2];exact (Below.refl _ w2).drew
 have HSB:=hidI (HSA.out.grow hbx)
 have C5c:=hidI (C5b.out.below hbx C5b.out.lt)
 have HBLc:=hidI (HBL.out.trans (hbx.mono (by have:=HBL.out.size;have:=HS0.out.sz;omega)))
 have HKPc:Hid (∀ k,k<w.heap.size->g.ow k=none->x2.heap[k]?=w.heap[k]?/\extN g.ow w.heap.size k=none):=fun k hk he=>⟨(hbx.block k (Nat.lt_of_lt_of_le hk (Nat.le_of_lt (Nat.lt_of_le_of_lt (Nat.le_refl _) C5b.out.lt)))).trans (HKP.out k hk he),(extN_lt hk).trans he⟩
 clear hx2 hbx HSA C5b HBL HKP hH
 go_wp2_with fail
 go_loopw [24] (fun v24 wr=>∃ (k:Nat) (its:List It) (rv':Value) (ow':Nat->Option Ow),v24=.int .i64 k/\k<=x.wl.length/\Hid (Shp f { g with rs:=g.rs.set i { x with r:=r },q:=g.q++its,rv:=rv',ow:=ow' } wr)/\Hid (its.map It.i=x.wl.take k)/\Hid (∀ it∈its,∃ j b7 b5,it=.re j r b7 b5)/\Hid (Cl wr w.heap.size 53 [.int .i64 r.code,.string r.tx])/\Hid (ow' w.heap.size=none)/\Hid (Below f.base w wr)/\Hid (∀ k,k<w.heap.size->g.ow k=none->wr.heap[k]?=w.heap[k]?/\ow' k=none)) (fun v24 _=>x.wl.length - (intOf v24).toNat)
 case atStart=>exact ⟨0,[],g.rv,extN g.ow w.heap.size,rfl,Nat.zero_le _,by rw [List.append_nil];exact HSB.out,rfl,(fun it h=>by cases h),C5c.out,extN_ge (Nat.le_refl _),HBLc.out,HKPc.out⟩
 obtain ⟨k,its,rv',ow',rfl,hk,HSR,HIT,HRE,HC5,HO5,HBR,HKR⟩:=hrel
 by_cases hlt:k<x.wl.length
 rotate_left
 · obtain rfl:k=x.wl.length:=by omega
   rw [List.take_length] at HIT
   go_wp2
   go_end0
   exact ⟨rfl,its,rv',ow',HSR.out,HIT.out,HRE.out,HBR.out,HKR.out⟩
 obtain ⟨j,hj⟩:∃ j,x.wl[k]?=some j:=⟨_,List.getElem?_eq_getElem hlt⟩
 have HJ:=hidI hj
 have hjl:j<g.rs.length:=HS0.out.wlt i x HI.out j (List.mem_of_getElem? hj)
 have hksE:(g.rs.set i { x with r:=r }).map (·.k)=g.ks:=ks_set HI.out rfl
 have HKS:=hidI hksE
 obtain ⟨wa2,wc2,hw2,hc2⟩:=row1_form (HSR.out.wr i _ (set_get HI.out))
 obtain ⟨gw,hgw,hcell⟩:=hc2 k ((g.ks.getD j rkz).go) (by
  show (x.wl.map fun j=>(((g.rs.set i { x with r:=r }).map (·.k)).getD j rkz).go)[k]?=_
  rw [hksE,List.getElem?_map,hj]
  rfl)
 have hwae:wa=wa2:=by
  have h1:x.wv=.slice wa2 x.wl.length wc2:=hw2
  rw [HXW.out] at h1
  injection h1
 subst hgw
 subst hwae
 have hcell':wr.cell? ⟨gw,k,none⟩=some (.func (.func 73) #[] #[.pointer (some ⟨(g.ks.getD j rkz).c7,0,none⟩),.pointer (some ⟨(g.ks.getD j rkz).c51,0,none⟩),.pointer (some ⟨(g.ks.getD j rkz).c9,0,none⟩),.pointer (some ⟨(g.ks.getD j rkz).c2,0,none⟩),.pointer (some ⟨(g.ks.getD j rkz).c13,0,none⟩)]):=hcell
 clear hj hw2 hc2 hcell hksE
 obtain ⟨kk,HKK⟩:∃ kk,Hid (g.ks.getD j rkz=kk):=⟨_,rfl⟩
 rw [HKK.out] at hcell'
 have hlt':(k:Int)<x.wl.length:=by omega
 go_upto_region 5 with fail
 obtain ⟨w4,hw4⟩:∃ u:World,u=wr.alloc (.cells #[.func (.func 73) #[] #[.pointer (some ⟨kk.c7,0,none⟩),.pointer (some ⟨kk.c51,0,none⟩),.pointer (some ⟨kk.c9,0,none⟩),.pointer (some ⟨kk.c2,0,none⟩),.pointer (some ⟨kk.c13,0,none⟩)]] 135):=⟨_,rfl⟩
 rw [<- hw4]
 have hb4:Below wr.heap.size wr w4:=by rw [hw4];exact (Below.refl _ _).alloc (Nat.le_refl _) _
 have C7:Hid (Cl w4 wr.heap.size 135 [kk.go]):=by show Cl _ _ _ _;rw [hw4];exact cl_new wr _ 135
 have HS4:Hid (Shp f { g with rs:=g.rs.set i { x with r:=r },q:=g.q++its,rv:=rv',ow:=extN ow' wr.heap.size } w4):=hidI ((HSR.out.extN wr.heap.size (Nat.le_refl _)).grow hb4)
 have HC54:=hidI (HC5.out.below hb4 HC5.out.lt)
 have HB4:=hidI (HBR.out.trans (hb4.mono (by have:=HBR.out.size;have:=HS0.out.sz;omega)))
 have d4:w4.cell? ⟨f.kb,4,none⟩=some rv':=HS4.out.kb.cell 4
 have HITE:Hid ((w4.alloc (.cells #[.func (.func 108) #[] #[.pointer (some ⟨wr.heap.size,0,none⟩),.pointer (some ⟨w.heap.size,0,none⟩)]] 1)).cell? ⟨w4.heap.size,0,none⟩=some (.func (.func 108) #[] #[pt wr.heap.size,pt w.heap.size])):=hidI ((cl_new w4 [_] 1).cell 0)
 have HAL:Hid (Below w4.heap.size w4 (w4.alloc (.cells #[.func (.func 108) #[] #[.pointer (some ⟨wr.heap.size,0,none⟩),.pointer (some ⟨w.heap.size,0,none⟩)]] 1))):=hidI ((Below.refl _ _).alloc (Nat.le_refl _) _)
 have hql:its.length=k:=by have:=congrArg List.length HIT.out;simpa [Nat.min_eq_left hk] using this
 have HOF:=hidI (HS4.out.rd.keep (w':=w4.alloc (.cells #[.func (.func 108) #[] #[.pointer (some ⟨wr.heap.size,0,none⟩),.pointer (some ⟨w.heap.size,0,none⟩)]] 1)) fun q _ hl=>HAL.out.block q hl)
 have HLN:Hid (((g.q++its).map (It.v ((g.rs.set i { x with r:=r }).map (·.k)))).length<=1000000):=by show _<=_;simp;omega
 have HB4a:=hidI hb4
 clear hw4 hb4 hcell' hql
 go_wp2_with (refine wl_off rfl _ _ 86 rfl f.base 1 underlying86 inf1 rv' _ rfl HOF.out ⟨w4.heap.size,0,none⟩ (.func (.func 108) #[] #[pt wr.heap.size,pt w.heap.size]) rfl HITE.out rfl HLN.out (by have:=HS4.out.sz;simp;omega) ?_;intro v5 w5 O5 g5 at5;obtain ⟨ra,rc,hv5⟩:=O5.form;subst hv5;have HO5':=hidI O5;have HG5:=hidI g5;have HA5:=hidI at5;have HKB5:=hidI ((HS4.out.kb.below HAL.out HS4.out.kb.lt).gb g5 (fun e=>by have:=HS4.out.ord _ e.symm;rw [HS4.out.okb] at this;cases this));have z4:w5.cell? ⟨f.kb,4,none⟩=some rv':=HKB5.out.cell 4;have zf:w5.frozen? ⟨f.kb,4,none⟩=false:=HKB5.out.opn 4;clear O5 g5 at5 d4)
 have e1:((g.q++its).map (It.v ((g.rs.set i { x with r:=r }).map (·.k)))++[Value.func (.func 108) #[] #[pt wr.heap.size,pt w.heap.size]]).length=g.q.length+(its.length+1):=by simp
 have hO:=HO5'.out
 have hA:=HA5.out
 change OffRow w5 f.base 1 (.slice ra ((g.q++its).map (It.v ((g.rs.set i { x with r:=r }).map (·.k)))++[Value.func (.func 108) #[] #[pt wr.heap.size,pt w.heap.size]]).length rc) ((g.q++its).map (It.v ((g.rs.set i { x with r:=r }).map (·.k)))++[Value.func (.func 108) #[] #[pt wr.heap.size,pt w.heap.size]]) at hO
 change (Value.slice ra ((g.q++its).map (It.v ((g.rs.set i { x with r:=r }).map (·.k)))++[Value.func (.func 108) #[] #[pt wr.heap.size,pt w.heap.size]]).length rc).ownBlock=_\/(Value.slice ra ((g.q++its).map (It.v ((g.rs.set i { x with r:=r }).map (·.k)))++[Value.func (.func 108) #[] #[pt wr.heap.size,pt w.heap.size]]).length rc).ownBlock=_ at hA
 rw [e1] at hO hA
 have hw5:w.heap.size<wr.heap.size:=HC5.out.lt
 have HP:=hidI (shp_push (it:=.re j r wr.heap.size w.heap.size) (rv':=.slice ra (g.q.length+(its.length+1)) rc) HS4.out HAL.out hO HG5.out hA (on_set w5 f.kb 4 (.slice ra (g.q.length+(its.length+1)) rc)) (HKB5.out.set 4 _) ⟨⟨by show Cl w4 wr.heap.size 135 [(((g.rs.set i { x with r:=r }).map (·.k)).getD j rkz).go];rw [HKS.out,HKK.out];exact C7.out,HC54.out⟩,extN_ge (Nat.le_refl _),(extN_lt hw5).trans HO5.out⟩ (by show j<(g.rs.set i _).length;rw [List.length_set];exact hjl))
 generalize (w5.setCell ⟨f.kb,4,none⟩ (.slice ra (g.q.length+(its.length+1)) rc))=w6 at*
 have HIT2:Hid ((its++[It.re j r wr.heap.size w.heap.size]).map It.i=x.wl.take (k+1)):=by
  show _=_
  rw [List.map_append,HIT.out,List.take_add_one,HJ.out]
  rfl
 have HRE2:Hid (∀ it∈its++[It.re j r wr.heap.size w.heap.size],∃ j b7 b5,it=.re j r b7 b5):=fun it h=>by
  rcases List.mem_append.1 h with h | h
  · exact HRE.out it h
  exact ⟨_,_,_,List.mem_singleton.1 h⟩
 have hz4:wr.heap.size<w4.heap.size:=C7.out.lt
 have HC56:Hid (Cl w6 w.heap.size 53 [.int .i64 r.code,.string r.tx]):=hidI ((HP.out.2.2 w.heap.size HC54.out.lt (by show extN ow' wr.heap.size w.heap.size=none;rw [extN_lt hw5];exact HO5.out)).trans HC54.out)
 have HB6:=hidI (HB4.out.trans HP.out.2.1)
 have HS6:Hid (Shp f { g with rs:=g.rs.set i { x with r:=r },q:=g.q++(its++[It.re j r wr.heap.size w.heap.size]),rv:=.slice ra (g.q.length+(its.length+1)) rc,ow:=ext (extN ow' wr.heap.size) w4.heap.size .rd } w6):=by
  have:=HP.out.1
  show Shp _ _ _
  rw [<- List.append_assoc]
  exact this
 have HO6:Hid (ext (extN ow' wr.heap.size) w4.heap.size .rd w.heap.size=none):=by show _=_;rw [ext_lt (by omega),extN_lt hw5];exact HO5.out
 have HK6:Hid (∀ q,q<w.heap.size->g.ow q=none->w6.heap[q]?=w.heap[q]?/\ext (extN ow' wr.heap.size) w4.heap.size .rd q=none):=fun q hq he=>by
  obtain ⟨h1,h2⟩:=HKR.out q hq he
  have hx:extN ow' wr.heap.size q=none:=(extN_lt (by omega)).trans h2
  exact ⟨(HP.out.2.2 q (by omega) hx).trans ((HB4a.out.block q (by omega)).trans h1),(ext_lt (by omega)).trans hx⟩
 clear HP hO hA e1 HOF HITE HAL
 go_roundw
 case rel=>exact ⟨k+1,its++[It.re j r wr.heap.size w.heap.size],_,_,by go_num,by omega,HS6.out,HIT2.out,HRE2.out,HC56.out,HO6.out,HB6.out,HK6.out⟩
 case measure=>simp [intOf];omega
structure Lgc (E:Env) (g:Gh) (ac:Option Nat):Prop where
 mem:∀ (i:Nat) x,g.rs[i]?=some x->x.k.m∈E.ms
 inj:∀ (i j:Nat) x y,g.rs[i]?=some x->g.rs[j]?=some y->x.k.m.nm=y.k.m.nm->i=j
 his:∀ (i:Nat) x,g.rs[i]?=some x->Hist E x.k.m x.ls
 fin:∀ (i:Nat) x,g.rs[i]?=some x->x.sta=.fin->((tn x.k.m x.ls).over=true/\x.wt=⟨#[]⟩)/\x.r=resOf (tn x.k.m x.ls)
 non:∀ (i:Nat) x,g.rs[i]?=some x->x.sta≠.fin->(tn x.k.m x.ls).over=false/\x.r=⟨6,⟨#[]⟩⟩
 act:∀ (i:Nat) x,g.rs[i]?=some x->(x.sta=.act↔ac=some i)
 que:∀ (i:Nat) x,g.rs[i]?=some x->(x.sta=.que↔i∈g.q.map It.i)
 qnd:(g.q.map It.i).Nodup
 qgo:∀ i,It.go i∈g.q->∀ x,g.rs[i]?=some x->x.st=false
 qre:∀ i r b7 b5,It.re i r b7 b5∈g.q->∀ x,g.rs[i]?=some x->Ans E (tn x.k.m x.ls) r
 wai:∀ (i:Nat) x j,g.rs[i]?=some x->x.sta=.wai j->((tn x.k.m x.ls).has=false/\x.wt=(tn x.k.m x.ls).name)/\E.pl (tn x.k.m x.ls).name=none/\∃ y,g.rs[j]?=some y/\y.sta≠.fin/\y.k.m.nm=(tn x.k.m x.ls).name
 wls:∀ (j:Nat) y,g.rs[j]?=some y->y.sta≠.fin->y.wl.Nodup/\∀ i,i∈y.wl↔∃ x,g.rs[i]?=some x/\x.sta=.wai j
def pwr (x:Ru):Nat:=40 - x.ls.length - (if x.st then 1 else 0)
def ptl (g:Gh):Nat:=(g.rs.map pwr).sum+41*(30 - g.rs.length)
theorem psum_set (h:l[i]?=some x):((l.set i x').map pwr).sum+pwr x=(l.map pwr).sum+pwr x':=by
 induction l generalizing i with
 | nil=>simp at h
 | cons y r ih=>
  cases i with
  | zero=>simp at h;subst h;simp;omega
  | succ i=>
   have:=ih (i:=i) (by simpa using h)
   simp at this ⊢
   omega
theorem Lgc.len (h:Lgc E g ac) (he:E.ms.length<=30):g.rs.length<=30:=by
 have h1:(g.rs.map (·.k.m.nm)).Nodup:=by
  rw [List.nodup_iff_pairwise_ne,List.pairwise_iff_getElem]
  intro i j hi hj hij e
  simp at hi hj e
  have:=h.inj i j _ _ (List.getElem?_eq_getElem hi) (List.getElem?_eq_getElem hj) e
  omega
 have:=nodup_len h1 (l':=E.ms.map (·.nm)) (fun n hn=>by
  obtain ⟨x,hx,rfl⟩:=List.mem_map.1 hn
  obtain ⟨i,hi,rfl⟩:=List.getElem_of_mem hx
  exact List.mem_map.2 ⟨_,h.mem i _ (List.getElem?_eq_getElem hi),rfl⟩)
 simp at this
 omega
theorem nodup_lt {l:List Nat} (h:l.Nodup) (hl:∀ i∈l,i<n):l.length<=n:=by
 have:=nodup_len h (l':=List.range n) (fun i hi=>List.mem_range.2 (hl i hi))
 simpa using this
theorem Lgc.beg {g':Gh} (hE:EnvOk E) (h:Lgc E g ac) (hql:∀ it∈g.q,it.i<g.rs.length) {m:M3} (hm:m∈E.ms) (hb:BegTo g g' m i x) (hi:g'.rs[i]?=some x) (hac:∀ i,ac=some i->i<g.rs.length) (he:E.ms.length<=30):Lgc E g' ac/\x.k.m=m/\(∀ (j:Nat) y,g.rs[j]?=some y->g'.rs[j]?=some y)/\ptl g'<=ptl g:=by
 rcases hb with ⟨h1,h2,h3,h4⟩ | ⟨rfl,h1,h2,h3,rfl,h4,h5,h6,h7,h8⟩
 · refine ⟨⟨?_,?_,?_,?_,?_,?_,?_,?_,?_,?_,?_,?_⟩,hE.one _ _ (h.mem i x h1) hm h2,fun j y e=>by rw [h3];exact e,by unfold ptl;rw [h3];exact Nat.le_refl _⟩
   · rw [h3];exact h.mem
   · rw [h3];exact h.inj
   · rw [h3];exact h.his
   · rw [h3];exact h.fin
   · rw [h3];exact h.non
   · rw [h3];exact h.act
   · rw [h3,h4];exact h.que
   · rw [h4];exact h.qnd
   · rw [h3,h4];exact h.qgo
   · rw [h3,h4];exact h.qre
   · rw [h3];exact h.wai
   rw [h3];exact h.wls
 have hL:Lgc E g' ac:=by
  have hover:(tn x.k.m x.ls).over=false:=by rw [h4];rfl
  refine ⟨?_,?_,?_,?_,?_,?_,?_,?_,?_,?_,?_,?_⟩
  · intro j y e
    rw [h2] at e
    rcases app_some e with ⟨rfl,rfl⟩ | ⟨_,e⟩
    · exact hm
    exact h.mem j y e
  · intro j j' y y' e e' hn
    rw [h2] at e e'
    rcases app_some e with ⟨rfl,rfl⟩ | ⟨_,e⟩
    · rcases app_some e' with ⟨rfl,rfl⟩ | ⟨_,e'⟩
      · rfl
      exact absurd hn.symm (h1 j' y' e')
    rcases app_some e' with ⟨rfl,e2⟩ | ⟨_,e'⟩
    · rw [e2] at hn;exact absurd hn (h1 j y (by assumption))
    exact h.inj j j' y y' e e' hn
  · intro j y e
    rw [h2] at e
    rcases app_some e with ⟨rfl,rfl⟩ | ⟨_,e⟩
    · rw [h4];exact .nil _
    exact h.his j y e
  · intro j y e hs
    rw [h2] at e
    rcases app_some e with ⟨rfl,rfl⟩ | ⟨_,e⟩
    · rw [h7] at hs;cases hs
    exact h.fin j y e hs
  · intro j y e hs
    rw [h2] at e
    rcases app_some e with ⟨rfl,rfl⟩ | ⟨_,e⟩
    · exact ⟨hover,h8⟩
    exact h.non j y e hs
  · intro j y e
    rw [h2] at e
    rcases app_some e with ⟨rfl,rfl⟩ | ⟨_,e⟩
    · rw [h7]
      exact ⟨(fun c=>by cases c),(fun c=>by have:=hac _ c;omega)⟩
    exact h.act j y e
  · intro j y e
    rw [h2] at e
    rw [h3,List.map_append,List.mem_append]
    rcases app_some e with ⟨rfl,rfl⟩ | ⟨hj,e⟩
    · exact ⟨fun _=>.inr (by simp [It.i]),fun _=>h7⟩
    rw [h.que j y e]
    refine ⟨.inl,fun c=>?_⟩
    rcases c with c | c
    · exact c
    simp [It.i] at c;omega
  · rw [h3,List.map_append]
    refine List.nodup_append.2 ⟨h.qnd,by simp,fun a ha b hb=>?_⟩
    obtain ⟨it,hit,rfl⟩:=List.mem_map.1 ha
    have:=hql it hit
    simp [It.i] at hb
    subst hb
    omega
  · intro j hj y e
    rw [h2] at e
    rw [h3,List.mem_append] at hj
    rcases app_some e with ⟨rfl,rfl⟩ | ⟨hlt,e⟩
    · exact h5
    rcases hj with hj | hj
    · exact h.qgo j hj y e
    simp at hj;omega
  · intro j r b7 b5 hj y e
    rw [h2] at e
    rw [h3,List.mem_append] at hj
    rcases hj with hj | hj
    · have hlt:j<g.rs.length:=hql _ hj
      rcases app_some e with ⟨rfl,_⟩ | ⟨_,e⟩
      · omega
      exact h.qre j r b7 b5 hj y e
    simp at hj
  · intro j y k e hs
    rw [h2] at e
    rcases app_some e with ⟨rfl,rfl⟩ | ⟨_,e⟩
    · rw [h7] at hs;cases hs
    obtain ⟨p1,p2,z,p3,p4⟩:=h.wai j y k e hs
    exact ⟨p1,p2,z,by rw [h2];exact app_old p3,p4⟩
  intro j y e hs
  rw [h2] at e
  rcases app_some e with ⟨rfl,rfl⟩ | ⟨_,e⟩
  · rw [h6]
    refine ⟨List.nodup_nil,fun i=>⟨(fun c=>by cases c),fun ⟨z,hz,hzs⟩=>?_⟩⟩
    rw [h2] at hz
    rcases app_some hz with ⟨rfl,rfl⟩ | ⟨_,hz⟩
    · rw [h7] at hzs;cases hzs
    obtain ⟨_,_,u,hu,_⟩:=h.wai i z _ hz hzs
    have:=(List.getElem?_eq_some_iff.1 hu).1
    omega
  obtain ⟨p1,p2⟩:=h.wls j y e hs
  refine ⟨p1,fun i=>?_⟩
  rw [p2 i,h2]
  constructor
  · rintro ⟨z,hz,hzs⟩
    exact ⟨z,app_old hz,hzs⟩
  rintro ⟨z,hz,hzs⟩
  rcases app_some hz with ⟨rfl,rfl⟩ | ⟨_,hz⟩
  · rw [h7] at hzs;cases hzs
  exact ⟨z,hz,hzs⟩
 refine ⟨hL,rfl,fun j y e=>by rw [h2];exact app_old e,?_⟩
 have hl:=hL.len he
 have hl2:g'.rs.length=g.rs.length+1:=by rw [h2];simp
 unfold ptl
 rw [h2]
 have hp:pwr x<=40:=by unfold pwr;omega
 simp
 omega
theorem Lgc.upd (h:Lgc E g (some i)) (hi:g.rs[i]?=some x) (e1:x'.k=x.k) (e2:x'.sta=x.sta) (e3:x'.wl=x.wl) (e4:x'.r=x.r) (hh:Hist E x.k.m x'.ls) (ho:(tn x.k.m x'.ls).over=false):Lgc E { g with rs:=g.rs.set i x' } (some i):=by
 have hxa:x.sta=.act:=(h.act i x hi).2 rfl
 have hget:∀ (j:Nat) y,(g.rs.set i x')[j]?=some y->(j=i/\y=x')\/(j≠i/\g.rs[j]?=some y):=fun j y e=>by
  rcases set_some e with ⟨rfl,rfl⟩ | ⟨hne,e⟩
  · exact .inl ⟨rfl,rfl⟩
  exact .inr ⟨fun c=>hne c.symm,e⟩
 have hold:∀ (j:Nat) y,g.rs[j]?=some y->∃ z,(g.rs.set i x')[j]?=some z/\z.k=y.k/\z.sta=y.sta:=fun j y e=>by
  obtain ⟨z,hz,⟨rfl,rfl⟩ | ⟨rfl,_⟩⟩:=set_old (x':=x') hi e
  · rw [hi] at e
    obtain rfl:=Option.some.inj e
    exact ⟨_,hz,e1,e2⟩
  exact ⟨z,hz,rfl,rfl⟩
 have hnq:i∉g.q.map It.i:=fun c=>by
  have:=(h.que i x hi).2 c
  rw [hxa] at this
  cases this
 refine ⟨?_,?_,?_,?_,?_,?_,?_,h.qnd,?_,?_,?_,?_⟩
 · intro j y e
   rcases hget j y e with ⟨rfl,rfl⟩ | ⟨_,e⟩
   · rw [e1];exact h.mem j x hi
   exact h.mem j y e
 · intro j j' y y' e e' hn
   rcases hget j y e with ⟨rfl,rfl⟩ | ⟨_,e⟩
   · rcases hget j' y' e' with ⟨rfl,rfl⟩ | ⟨_,e'⟩
     · rfl
     rw [e1] at hn;exact h.inj _ _ _ _ hi e' hn
   rcases hget j' y' e' with ⟨c1,c2⟩ | ⟨_,e'⟩
   · rw [c2,e1] at hn;rw [c1];exact h.inj _ _ _ _ e hi hn
   exact h.inj _ _ _ _ e e' hn
 · intro j y e
   rcases hget j y e with ⟨rfl,rfl⟩ | ⟨_,e⟩
   · rw [e1];exact hh
   exact h.his j y e
 · intro j y e hs
   rcases hget j y e with ⟨rfl,rfl⟩ | ⟨_,e⟩
   · rw [e2,hxa] at hs;cases hs
   exact h.fin j y e hs
 · intro j y e hs
   rcases hget j y e with ⟨rfl,rfl⟩ | ⟨_,e⟩
   · rw [e1,e4];exact ⟨ho,(h.non j x hi (by rw [hxa];simp)).2⟩
   exact h.non j y e hs
 · intro j y e
   rcases hget j y e with ⟨rfl,rfl⟩ | ⟨_,e⟩
   · rw [e2];exact h.act j x hi
   exact h.act j y e
 · intro j y e
   rcases hget j y e with ⟨rfl,rfl⟩ | ⟨_,e⟩
   · rw [e2];exact h.que j x hi
   exact h.que j y e
 · intro j hj y e
   rcases hget j y e with ⟨rfl,rfl⟩ | ⟨_,e⟩
   · exact absurd (List.mem_map.2 ⟨_,hj,rfl⟩) hnq
   exact h.qgo j hj y e
 · intro j r b7 b5 hj y e
   rcases hget j y e with ⟨rfl,rfl⟩ | ⟨_,e⟩
   · exact absurd (List.mem_map.2 ⟨_,hj,rfl⟩) hnq
   exact h.qre j r b7 b5 hj y e
 · intro j y k e hs
   rcases hget j y e with ⟨rfl,rfl⟩ | ⟨_,e⟩
   · rw [e2,hxa] at hs;cases hs
   obtain ⟨p1,p2,z,p3,p4,p5⟩:=h.wai j y k e hs
   obtain ⟨z',hz,k1,k2⟩:=hold k z p3
   exact ⟨p1,p2,z',hz,by rw [k2];exact p4,by rw [k1];exact p5⟩
 intro j y e hs
 have key:∀ z,g.rs[j]?=some z->y.sta=z.sta->y.wl=z.wl->y.wl.Nodup/\∀ i',i'∈y.wl↔∃ u,(g.rs.set i x')[i']?=some u/\u.sta=.wai j:=fun z hz q1 q2=>by
  obtain ⟨p1,p2⟩:=h.wls j z hz (by rw [<- q1];exact hs)
  rw [q2]
  refine ⟨p1,fun i'=>?_⟩
  rw [p2 i']
  constructor
  · rintro ⟨u,hu,hus⟩
    obtain ⟨u',hu',_,k2⟩:=hold i' u hu
    exact ⟨u',hu',by rw [k2];exact hus⟩
  rintro ⟨u,hu,hus⟩
  rcases hget i' u hu with ⟨rfl,rfl⟩ | ⟨_,hu⟩
  · rw [e2,hxa] at hus;cases hus
  exact ⟨u,hu,hus⟩
 rcases hget j y e with ⟨rfl,rfl⟩ | ⟨_,e⟩
 · exact key x hi e2 e3
 exact key y e rfl rfl
def prom (i:Nat) (y:Ru):Ru:=if y.sta=.wai i then { y with sta:=.que } else y
theorem prom_eq (i:Nat) (y:Ru):(prom i y).k=y.k/\(prom i y).ls=y.ls/\(prom i y).st=y.st/\(prom i y).wl=y.wl/\(prom i y).r=y.r:=by
 unfold prom
 split <;> exact ⟨rfl,rfl,rfl,rfl,rfl⟩
theorem prom_wt (i:Nat) (y:Ru):(prom i y).wt=y.wt:=by
 unfold prom
 split <;> rfl
theorem prom_sta (i:Nat) (y:Ru):(prom i y).sta=if y.sta=.wai i then .que else y.sta:=by
 unfold prom
 split <;> rfl
theorem map_some {F:Ru->Ru} (h:(l.map F)[j]?=some y):∃ z,l[j]?=some z/\y=F z:=by
 rw [List.getElem?_map] at h
 obtain ⟨z,h1,h2⟩:=Option.map_eq_some_iff.1 h
 exact ⟨z,h1,h2.symm⟩
theorem map_of {F:Ru->Ru} {z:Ru} (h:l[j]?=some z):(l.map F)[j]?=some (F z):=by rw [List.getElem?_map,h];rfl
theorem Lgc.end {r:R2} (h:Lgc E g (some i)) (hi:g.rs[i]?=some x) (e1:x'.k=x.k) (e2:x'.sta=.fin) (e3:x'.wl=x.wl) (e4:x'.r=r) (ew:x'.wt=⟨#[]⟩) (hh:Hist E x.k.m x'.ls) (ho:(tn x.k.m x'.ls).over=true) (er:r=resOf (tn x.k.m x'.ls)) (hits:its.map It.i=x.wl) (hre:∀ it∈its,∃ j b7 b5,it=.re j r b7 b5):
 Lgc E { g with rs:=(g.rs.map (prom i)).set i x',q:=g.q++its } none:=by
 have hxa:x.sta=.act:=(h.act i x hi).2 rfl
 have hi':(g.rs.map (prom i))[i]?=some (prom i x):=map_of hi
 have hget:∀ (j:Nat) y,((g.rs.map (prom i)).set i x')[j]?=some y->(j=i/\y=x')\/(j≠i/\∃ z,g.rs[j]?=some z/\y=prom i z):=fun j y e=>by
  rcases set_some e with ⟨rfl,rfl⟩ | ⟨hne,e⟩
  · exact .inl ⟨rfl,rfl⟩
  exact .inr ⟨fun c=>hne c.symm,map_some e⟩
 have hold:∀ (j:Nat) y,g.rs[j]?=some y->∃ z,((g.rs.map (prom i)).set i x')[j]?=some z/\z.k=y.k/\(j=i/\z=x'\/j≠i/\z=prom i y):=fun j y e=>by
  obtain ⟨z,hz,⟨rfl,rfl⟩ | ⟨rfl,hne⟩⟩:=set_old (x':=x') hi' (map_of (F:=prom i) e)
  · rw [hi] at e
    obtain rfl:=Option.some.inj e
    exact ⟨_,hz,e1,.inl ⟨rfl,rfl⟩⟩
  exact ⟨_,hz,(prom_eq i y).1,.inr ⟨fun c=>hne c.symm,rfl⟩⟩
 have hwl:=h.wls i x hi (by rw [hxa];simp)
 have hfin:Fin E x.k.m.nm r:=⟨x.k.m,x'.ls,h.mem i x hi,rfl,hh,ho,er⟩
 have hact:∀ (j:Nat) z,g.rs[j]?=some z->j≠i->z.sta≠.act:=fun j z hz hne c=>by
  have:=(h.act j z hz).1 c
  simp at this
  exact hne this.symm
 refine ⟨?_,?_,?_,?_,?_,?_,?_,?_,?_,?_,?_,?_⟩
 · intro j y e
   rcases hget j y e with ⟨rfl,rfl⟩ | ⟨_,z,hz,rfl⟩
   · rw [e1];exact h.mem j x hi
   rw [(prom_eq i z).1];exact h.mem j z hz
 · intro j j' y y' e e' hn
   rcases hget j y e with ⟨c1,c2⟩ | ⟨_,z,hz,c2⟩
   · rcases hget j' y' e' with ⟨d1,d2⟩ | ⟨_,z',hz',d2⟩
     · rw [c1,d1]
     rw [c2,d2,e1,(prom_eq i z').1] at hn
     rw [c1]
     exact h.inj _ _ _ _ hi hz' hn
   rcases hget j' y' e' with ⟨d1,d2⟩ | ⟨_,z',hz',d2⟩
   · rw [c2,d2,e1,(prom_eq i z).1] at hn
     rw [d1]
     exact h.inj _ _ _ _ hz hi hn
   rw [c2,d2,(prom_eq i z).1,(prom_eq i z').1] at hn
   exact h.inj _ _ _ _ hz hz' hn
 · intro j y e
   rcases hget j y e with ⟨rfl,rfl⟩ | ⟨_,z,hz,rfl⟩
   · rw [e1];exact hh
   rw [(prom_eq i z).1,(prom_eq i z).2.1];exact h.his j z hz
 · intro j y e hs
   rcases hget j y e with ⟨rfl,rfl⟩ | ⟨_,z,hz,rfl⟩
   · rw [e1,e4];exact ⟨⟨ho,ew⟩,er⟩
   rw [(prom_eq i z).1,(prom_eq i z).2.1,(prom_eq i z).2.2.2.2,prom_wt]
   refine h.fin j z hz ?_
   rw [prom_sta] at hs
   split at hs
   · cases hs
   exact hs
 · intro j y e hs
   rcases hget j y e with ⟨rfl,rfl⟩ | ⟨_,z,hz,rfl⟩
   · exact absurd e2 hs
   rw [(prom_eq i z).1,(prom_eq i z).2.1,(prom_eq i z).2.2.2.2]
   refine h.non j z hz (fun c=>hs ?_)
   rw [prom_sta,c]
   rfl
 · intro j y e
   refine ⟨fun c=>?_,(fun c=>by cases c)⟩
   rcases hget j y e with ⟨rfl,rfl⟩ | ⟨hne,z,hz,rfl⟩
   · rw [e2] at c;cases c
   rw [prom_sta] at c
   split at c
   · cases c
   exact absurd c (hact j z hz hne)
 · intro j y e
   show y.sta=.que↔j∈(g.q++its).map It.i
   rw [List.map_append,List.mem_append,hits]
   rcases hget j y e with ⟨rfl,rfl⟩ | ⟨hne,z,hz,rfl⟩
   · rw [e2]
     refine ⟨(fun c=>by cases c),fun c=>?_⟩
     rcases c with c | c
     · have:=(h.que j x hi).2 c
       rw [hxa] at this
       cases this
     obtain ⟨u,hu,hus⟩:=(hwl.2 j).1 c
     rw [hi] at hu
     obtain rfl:=Option.some.inj hu
     rw [hxa] at hus
     cases hus
   rw [prom_sta]
   by_cases c:z.sta=.wai i
   · rw [if_pos c]
     exact ⟨fun _=>.inr ((hwl.2 j).2 ⟨z,hz,c⟩),fun _=>rfl⟩
   rw [if_neg c,h.que j z hz]
   refine ⟨.inl,fun d=>?_⟩
   rcases d with d | d
   · exact d
   obtain ⟨u,hu,hus⟩:=(hwl.2 j).1 d
   rw [hz] at hu
   obtain rfl:=Option.some.inj hu
   exact absurd hus c
 · show ((g.q++its).map It.i).Nodup
   rw [List.map_append,hits]
   refine List.nodup_append.2 ⟨h.qnd,hwl.1,fun a ha b hb hab=>?_⟩
   subst hab
   obtain ⟨u,hu,hus⟩:=(hwl.2 a).1 hb
   have:=(h.que a u hu).2 ha
   rw [hus] at this
   cases this
 · intro j hj y e
   rcases List.mem_append.1 hj with hj | hj
   · rcases hget j y e with ⟨c1,_⟩ | ⟨_,z,hz,rfl⟩
     · have:=(h.que i x hi).2 (by rw [<- c1];exact List.mem_map.2 ⟨_,hj,rfl⟩)
       rw [hxa] at this
       cases this
     rw [(prom_eq i z).2.2.1];exact h.qgo j hj z hz
   obtain ⟨_,_,_,c⟩:=hre _ hj
   cases c
 · intro j r' b7 b5 hj y e
   rcases List.mem_append.1 hj with hj | hj
   · rcases hget j y e with ⟨c1,_⟩ | ⟨_,z,hz,rfl⟩
     · have:=(h.que i x hi).2 (by rw [<- c1];exact List.mem_map.2 ⟨_,hj,rfl⟩)
       rw [hxa] at this
       cases this
     rw [(prom_eq i z).1,(prom_eq i z).2.1];exact h.qre j r' b7 b5 hj z hz
   obtain ⟨j2,_,_,c⟩:=hre _ hj
   injection c with c1 c2
   subst c2
   have hjw:j∈x.wl:=by rw [<- hits];exact List.mem_map.2 ⟨_,hj,rfl⟩
   obtain ⟨u,hu,hus⟩:=(hwl.2 j).1 hjw
   rcases hget j y e with ⟨d1,_⟩ | ⟨_,z,hz,rfl⟩
   · rw [d1,hi] at hu
     obtain rfl:=Option.some.inj hu
     rw [hxa] at hus
     cases hus
   rw [hz] at hu
   obtain rfl:=Option.some.inj hu
   obtain ⟨p1,p2,v,p3,_,p5⟩:=h.wai j z i hz hus
   rw [hi] at p3
   obtain rfl:=Option.some.inj p3
   rw [(prom_eq i z).1,(prom_eq i z).2.1]
   exact .inr ⟨p1.1,.inr ⟨p2,by rw [<- p5];exact hfin⟩⟩
 · intro j y k e hs
   rcases hget j y e with ⟨rfl,rfl⟩ | ⟨_,z,hz,rfl⟩
   · rw [e2] at hs;cases hs
   rw [prom_sta] at hs
   split at hs
   · cases hs
   rename_i hnw
   obtain ⟨p1,p2,v,p3,p4,p5⟩:=h.wai j z k hz hs
   obtain ⟨v',hv',k1,⟨rfl,rfl⟩ | ⟨_,rfl⟩⟩:=hold k v p3
   · exact absurd hs hnw
   rw [(prom_eq i z).1,(prom_eq i z).2.1,prom_wt]
   refine ⟨p1,p2,_,hv',fun c=>p4 ?_,by rw [k1];exact p5⟩
   rw [prom_sta] at c
   split at c
   · cases c
   exact c
 intro j y e hs
 rcases hget j y e with ⟨rfl,rfl⟩ | ⟨hne,z,hz,rfl⟩
 · exact absurd e2 hs
 have hzf:z.sta≠.fin:=fun c=>hs (by rw [prom_sta,c];rfl)
 obtain ⟨p1,p2⟩:=h.wls j z hz hzf
 rw [(prom_eq i z).2.2.2.1]
 refine ⟨p1,fun i'=>?_⟩
 rw [p2 i']
 constructor
 · rintro ⟨u,hu,hus⟩
   obtain ⟨u',hu',_,⟨c1,c2⟩ | ⟨_,rfl⟩⟩:=hold i' u hu
   · rw [c1,hi] at hu
     obtain rfl:=Option.some.inj hu
     rw [hxa] at hus
     cases hus
   refine ⟨_,hu',?_⟩
   rw [prom_sta,hus,if_neg (fun c=>?_)]
   injection c with c
   exact hne c
 rintro ⟨u,hu,hus⟩
 rcases hget i' u hu with ⟨c1,c2⟩ | ⟨_,u',hu',rfl⟩
 · rw [c2,e2] at hus;cases hus
 rw [prom_sta] at hus
 split at hus
 · cases hus
 exact ⟨u',hu',hus⟩
def WtP (i j:Nat) (nm:ByteArray) (k:Nat) (z z':Ru):Prop:=z'.k=z.k/\z'.ls=z.ls/\z'.st=z.st/\(z'.r=z.r/\z'.wt=if k=i then nm else z.wt)/\z'.sta=(if k=i then .wai j else z.sta)/\z'.wl=if k=j then z.wl++[i] else z.wl
theorem Lgc.wtg (h:Lgc E g (some i)) (hi:g.rs[i]?=some x) (hj:g.rs[j]?=some y) (hhas:(tn x.k.m x.ls).has=false) (hpl:E.pl (tn x.k.m x.ls).name=none) (hyf:y.sta≠.fin) (hyn:y.k.m.nm=(tn x.k.m x.ls).name) (h1:∀ (k:Nat) z,g.rs[k]?=some z->∃ z',rs2[k]?=some z'/\WtP i j (tn x.k.m x.ls).name k z z') (h2:∀ (k:Nat) z',rs2[k]?=some z'->∃ z,g.rs[k]?=some z/\WtP i j (tn x.k.m x.ls).name k z z'):Lgc E { g with rs:=rs2 } none:=by
 have hxa:x.sta=.act:=(h.act i x hi).2 rfl
 have hix:∀ z,g.rs[i]?=some z->z=x:=fun z hz=>by rw [hi] at hz;exact (Option.some.inj hz).symm
 have hfin:∀ (k:Nat) z z',g.rs[k]?=some z->WtP i j (tn x.k.m x.ls).name k z z'->(z'.sta=.fin↔z.sta=.fin):=fun k z z' hz hw=>by
  rw [hw.2.2.2.2.1]
  by_cases c:k=i
  · subst c
    rw [if_pos rfl,hix z hz,hxa]
    exact ⟨(fun d=>by cases d),(fun d=>by cases d)⟩
  rw [if_neg c]
 refine ⟨?_,?_,?_,?_,?_,?_,?_,h.qnd,?_,?_,?_,?_⟩
 · intro k z' e
   obtain ⟨z,hz,hw⟩:=h2 k z' e
   rw [hw.1];exact h.mem k z hz
 · intro k k' z z' e e' hn
   obtain ⟨u,hu,hw⟩:=h2 k z e
   obtain ⟨u',hu',hw'⟩:=h2 k' z' e'
   rw [hw.1,hw'.1] at hn
   exact h.inj _ _ _ _ hu hu' hn
 · intro k z' e
   obtain ⟨z,hz,hw⟩:=h2 k z' e
   rw [hw.1,hw.2.1];exact h.his k z hz
 · intro k z' e hs
   obtain ⟨z,hz,hw⟩:=h2 k z' e
   have hs':=(hfin k z z' hz hw).1 hs
   have hki:k≠i:=fun c=>by rw [c] at hz;rw [hix z hz,hxa] at hs';cases hs'
   rw [hw.1,hw.2.1,hw.2.2.2.1.1,hw.2.2.2.1.2,if_neg hki]
   exact h.fin k z hz hs'
 · intro k z' e hs
   obtain ⟨z,hz,hw⟩:=h2 k z' e
   rw [hw.1,hw.2.1,hw.2.2.2.1.1]
   exact h.non k z hz (fun c=>hs ((hfin k z z' hz hw).2 c))
 · intro k z' e
   obtain ⟨z,hz,hw⟩:=h2 k z' e
   rw [hw.2.2.2.2.1]
   refine ⟨fun c=>?_,(fun c=>by cases c)⟩
   by_cases d:k=i
   · rw [if_pos d] at c;cases c
   rw [if_neg d] at c
   have:=(h.act k z hz).1 c
   simp at this
   exact absurd this.symm d
 · intro k z' e
   obtain ⟨z,hz,hw⟩:=h2 k z' e
   show z'.sta=.que↔k∈g.q.map It.i
   rw [<- h.que k z hz,hw.2.2.2.2.1]
   by_cases d:k=i
   · subst d
     rw [if_pos rfl,hix z hz,hxa]
     exact ⟨(fun c=>by cases c),(fun c=>by cases c)⟩
   rw [if_neg d]
 · intro k hk z' e
   obtain ⟨z,hz,hw⟩:=h2 k z' e
   rw [hw.2.2.1];exact h.qgo k hk z hz
 · intro k r b7 b5 hk z' e
   obtain ⟨z,hz,hw⟩:=h2 k z' e
   rw [hw.1,hw.2.1];exact h.qre k r b7 b5 hk z hz
 · intro k z' l e hs
   obtain ⟨z,hz,hw⟩:=h2 k z' e
   rw [hw.1,hw.2.1,hw.2.2.2.1.2]
   rw [hw.2.2.2.2.1] at hs
   by_cases d:k=i
   · subst d
     rw [if_pos rfl] at hs ⊢
     injection hs with hs
     subst hs
     rw [hix z hz]
     obtain ⟨y',hy',hw'⟩:=h1 j y hj
     exact ⟨⟨hhas,rfl⟩,hpl,y',hy',fun c=>hyf ((hfin j y y' hj hw').1 c),by rw [hw'.1];exact hyn⟩
   rw [if_neg d] at hs ⊢
   obtain ⟨p1,p2,v,p3,p4,p5⟩:=h.wai k z l hz hs
   obtain ⟨v',hv',hwv⟩:=h1 l v p3
   exact ⟨p1,p2,v',hv',fun c=>p4 ((hfin l v v' p3 hwv).1 c),by rw [hwv.1];exact p5⟩
 intro k z' e hs
 obtain ⟨z,hz,hw⟩:=h2 k z' e
 obtain ⟨p1,p2⟩:=h.wls k z hz (fun c=>hs ((hfin k z z' hz hw).2 c))
 have hnx:i∈z.wl->False:=fun c=>by
  obtain ⟨u,hu,hus⟩:=(p2 i).1 c
  rw [hix u hu,hxa] at hus
  cases hus
 have key:∀ i',(∃ u,rs2[i']?=some u/\u.sta=.wai k)↔(i'∈z.wl\/(i'=i/\k=j)):=fun i'=>by
  constructor
  · rintro ⟨u',hu',hus⟩
    obtain ⟨u,hu,hwu⟩:=h2 i' u' hu'
    rw [hwu.2.2.2.2.1] at hus
    by_cases d:i'=i
    · rw [if_pos d] at hus
      injection hus with hus
      exact .inr ⟨d,hus.symm⟩
    rw [if_neg d] at hus
    exact .inl ((p2 i').2 ⟨u,hu,hus⟩)
  rintro (c | ⟨rfl,rfl⟩)
  · obtain ⟨u,hu,hus⟩:=(p2 i').1 c
    obtain ⟨u',hu',hwu⟩:=h1 i' u hu
    refine ⟨u',hu',?_⟩
    rw [hwu.2.2.2.2.1,if_neg (fun d=>?_)]
    · exact hus
    subst d
    exact hnx c
  obtain ⟨u',hu',hwu⟩:=h1 i' x hi
  exact ⟨u',hu',by rw [hwu.2.2.2.2.1,if_pos rfl]⟩
 rw [hw.2.2.2.2.2]
 by_cases d:k=j
 · rw [if_pos d]
   refine ⟨List.nodup_append.2 ⟨p1,by simp,fun a ha b hb hab=>?_⟩,fun i'=>?_⟩
   · simp at hb
     subst hab hb
     exact hnx ha
   rw [key i',List.mem_append]
   simp [d]
 rw [if_neg d]
 refine ⟨p1,fun i'=>?_⟩
 rw [key i']
 simp [d]
theorem Lgc.pop (h:Lgc E g none) (hq:g.q=it::q') (hi:g.rs[it.i]?=some x):Lgc E { g with rs:=g.rs.set it.i { x with sta:=.act,st:=true },q:=q' } (some it.i)/\(tn x.k.m x.ls).over=false/\(∀ i,it=.go i->x.st=false)/\∀ i r b7 b5,it=.re i r b7 b5->Ans E (tn x.k.m x.ls) r:=by
 have hxq:x.sta=.que:=(h.que it.i x hi).2 (by rw [hq];simp)
 have hnd:=h.qnd
 rw [hq,List.map_cons,List.nodup_cons] at hnd
 have hget:∀ (j:Nat) y,(g.rs.set it.i { x with sta:=.act,st:=true })[j]?=some y->(j=it.i/\y={ x with sta:=.act,st:=true })\/(j≠it.i/\g.rs[j]?=some y):=fun j y e=>by
  rcases set_some e with ⟨rfl,rfl⟩ | ⟨hne,e⟩
  · exact .inl ⟨rfl,rfl⟩
  exact .inr ⟨fun c=>hne c.symm,e⟩
 have hold:∀ (j:Nat) y,g.rs[j]?=some y->∃ z,(g.rs.set it.i { x with sta:=.act,st:=true })[j]?=some z/\z.k=y.k/\z.ls=y.ls/\(z.sta=.fin↔y.sta=.fin)/\(∀ l,z.sta=.wai l↔y.sta=.wai l):=fun j y e=>by
  obtain ⟨z,hz,⟨rfl,rfl⟩ | ⟨rfl,_⟩⟩:=set_old (x':={ x with sta:=.act,st:=true }) hi e
  · rw [hi] at e
    obtain rfl:=Option.some.inj e
    exact ⟨_,hz,rfl,rfl,by rw [hxq];simp,fun l=>by rw [hxq];simp⟩
  exact ⟨z,hz,rfl,rfl,Iff.rfl,fun _=>Iff.rfl⟩
 refine ⟨⟨?_,?_,?_,?_,?_,?_,?_,hnd.2,?_,?_,?_,?_⟩,(h.non it.i x hi (by rw [hxq];simp)).1,fun i e=>?_,fun i r b7 b5 e=>?_⟩
 · intro j y e
   rcases hget j y e with ⟨rfl,rfl⟩ | ⟨_,e⟩
   · exact h.mem _ x hi
   exact h.mem j y e
 · intro j j' y y' e e' hn
   rcases hget j y e with ⟨c1,c2⟩ | ⟨_,e⟩
   · rcases hget j' y' e' with ⟨d1,d2⟩ | ⟨_,e'⟩
     · rw [c1,d1]
     rw [c2] at hn
     rw [c1]
     exact h.inj _ _ _ _ hi e' hn
   rcases hget j' y' e' with ⟨d1,d2⟩ | ⟨_,e'⟩
   · rw [d2] at hn
     rw [d1]
     exact h.inj _ _ _ _ e hi hn
   exact h.inj _ _ _ _ e e' hn
 · intro j y e
   rcases hget j y e with ⟨rfl,rfl⟩ | ⟨_,e⟩
   · exact h.his _ x hi
   exact h.his j y e
 · intro j y e hs
   rcases hget j y e with ⟨rfl,rfl⟩ | ⟨_,e⟩
   · cases hs
   exact h.fin j y e hs
 · intro j y e hs
   rcases hget j y e with ⟨rfl,rfl⟩ | ⟨_,e⟩
   · exact h.non _ x hi (by rw [hxq];simp)
   exact h.non j y e hs
 · intro j y e
   rcases hget j y e with ⟨rfl,rfl⟩ | ⟨hne,e⟩
   · simp
   rw [h.act j y e]
   refine ⟨(fun c=>by cases c),fun c=>?_⟩
   exact absurd (Option.some.inj c).symm hne
 · intro j y e
   rcases hget j y e with ⟨rfl,rfl⟩ | ⟨hne,e⟩
   · exact ⟨(fun c=>by cases c),fun c=>absurd c hnd.1⟩
   rw [h.que j y e,hq]
   show j∈it.i::q'.map It.i↔j∈q'.map It.i
   rw [List.mem_cons]
   exact ⟨fun c=>c.resolve_left hne,.inr⟩
 · intro j hj y e
   rcases hget j y e with ⟨c1,_⟩ | ⟨_,e⟩
   · exact absurd (List.mem_map.2 ⟨_,hj,c1⟩) hnd.1
   exact h.qgo j (by rw [hq];exact List.mem_cons_of_mem _ hj) y e
 · intro j r b7 b5 hj y e
   rcases hget j y e with ⟨c1,_⟩ | ⟨_,e⟩
   · exact absurd (List.mem_map.2 ⟨_,hj,c1⟩) hnd.1
   exact h.qre j r b7 b5 (by rw [hq];exact List.mem_cons_of_mem _ hj) y e
 · intro j y l e hs
   rcases hget j y e with ⟨rfl,rfl⟩ | ⟨_,e⟩
   · cases hs
   obtain ⟨p1,p2,v,p3,p4,p5⟩:=h.wai j y l e hs
   obtain ⟨v',hv',k1,k2,k3,_⟩:=hold l v p3
   exact ⟨p1,p2,v',hv',fun c=>p4 (k3.1 c),by rw [k1];exact p5⟩
 · intro j y e hs
   have key:∀ z,g.rs[j]?=some z->z.sta≠.fin->y.wl=z.wl->y.wl.Nodup/\∀ i',i'∈y.wl↔∃ u,(g.rs.set it.i { x with sta:=.act,st:=true })[i']?=some u/\u.sta=.wai j:=fun z hz q1 q2=>by
    obtain ⟨p1,p2⟩:=h.wls j z hz q1
    rw [q2]
    refine ⟨p1,fun i'=>?_⟩
    rw [p2 i']
    constructor
    · rintro ⟨u,hu,hus⟩
      obtain ⟨u',hu',_,_,_,k4⟩:=hold i' u hu
      exact ⟨u',hu',(k4 j).2 hus⟩
    rintro ⟨u,hu,hus⟩
    rcases hget i' u hu with ⟨_,rfl⟩ | ⟨_,hu⟩
    · cases hus
    exact ⟨u,hu,hus⟩
   rcases hget j y e with ⟨rfl,rfl⟩ | ⟨_,e⟩
   · exact key x hi (by rw [hxq];simp) rfl
   exact key y e hs rfl
 · subst e
   exact h.qgo i (by rw [hq];exact List.mem_cons_self ..) x hi
 subst e
 exact h.qre i r b7 b5 (by rw [hq];exact List.mem_cons_self ..) x hi
theorem find_run (h:Lgc E g ac) (hy:g.rs[j]?=some y):(g.rs.find? fun z=>decide (z.k.m.nm=y.k.m.nm))=some y:=by
 cases hf:(g.rs.find? fun z=>decide (z.k.m.nm=y.k.m.nm)) with
 | none=>exact absurd (List.find?_eq_none.1 hf y (List.mem_of_getElem? hy)) (by simp)
 | some z=>
  have h1:=List.find?_some hf
  obtain ⟨k,hk,rfl⟩:=List.getElem_of_mem (List.mem_of_find?_eq_some hf)
  have:=h.inj k j _ y (List.getElem?_eq_getElem hk) hy (by simpa using h1)
  subst this
  rw [List.getElem?_eq_getElem hk] at hy
  exact hy
theorem Lgc.looks (hE:EnvOk E) (h:Lgc E g none) (hq:g.q=[]) (hi:g.rs[i]?=some x):IsLk E x.k.m.nm x.ls:=by
 have hw:∀ (j:Nat) y,g.rs[j]?=some y->y.sta≠.fin->∃ k,y.sta=.wai k:=fun j y hy hf=>by
  cases hs:y.sta with
  | act=>have:=(h.act j y hy).1 hs;cases this
  | que=>have:=(h.que j y hy).1 hs;rw [hq] at this;cases this
  | fin=>exact absurd hs hf
  | wai k=>exact ⟨k,rfl⟩
 refine .inr ⟨x.k.m,h.mem i x hi,rfl,h.his i x hi,fun ls hh=>?_⟩
 have key:=closed_pre hE (D:=fun m=>∃ (j:Nat) (y:Ru),g.rs[j]?=some y/\y.k.m=m) (O:=fun m=>∃ (j:Nat) (y:Ru),g.rs[j]?=some y/\y.k.m=m/\y.sta=.fin) (L:=fun m=>((g.rs.find? fun y=>decide (y.k.m.nm=m.nm)).elim [] (·.ls))) (fun m ⟨j,y,hy,e⟩=>e▸h.mem j y hy) (fun m ⟨j,y,hy,e⟩=>by
  subst e
  rw [find_run h hy]
  exact h.his j y hy) (fun m _ ⟨j,y,hy,e,hs⟩=>by
  subst e
  rw [find_run h hy]
  exact (h.fin j y hy hs).1.1) (fun m ⟨j,y,hy,e⟩ hno=>by
  subst e
  rw [find_run h hy]
  have hf:y.sta≠.fin:=fun c=>hno ⟨j,y,hy,rfl,c⟩
  obtain ⟨k,hk⟩:=hw j y hy hf
  obtain ⟨p1,p2,v,p3,p4,p5⟩:=h.wai j y k hy hk
  refine ⟨(h.non j y hy hf).1,p1.1,p2,fun m' hm' hn'=>?_⟩
  have hv:v.k.m=m':=hE.one _ _ (h.mem k v p3) hm' (p5.trans hn'.symm)
  refine ⟨⟨k,v,p3,hv⟩,fun ⟨j2,y2,hy2,e2,hs2⟩=>p4 ?_⟩
  have:j2=k:=h.inj j2 k y2 v hy2 p3 (by rw [e2,hv])
  subst this
  rw [p3] at hy2
  obtain rfl:=Option.some.inj hy2
  exact hs2) hh ⟨i,x,hi,rfl⟩
 rw [find_run h hi] at key
 exact key
theorem rsF_ok (m:M3) (ls:List M.L4):(∀ x∈ls,x.tx.size<=1048576)->RSOk (rsF m ls)/\(rsF m ls).reps.length<=ls.length:=
 snocInd (P:=fun ls=>(∀ x∈ls,x.tx.size<=1048576)->RSOk (rsF m ls)/\(rsF m ls).reps.length<=ls.length) (fun _=>⟨rs0_ok,Nat.le_refl _⟩) (fun ls x ih h=>by
  obtain ⟨h1,h2⟩:=ih (fun y hy=>h y (List.mem_append_left _ hy))
  rw [rsF_snoc]
  refine ⟨next_ok h1 (h x (by simp)),?_⟩
  have:=next_len (tl:=m.tl) (ar:=m.ar) (s:=rsF m ls) (r:=⟨x.cd,x.tx⟩)
  simp
  omega) ls
structure Aft (f:Fx) (E:Env) (g g':Gh) (w w':World):Prop where
 shp:Shp f g' w'
 lgc:Lgc E g' none
 ext:∀ (j:Nat) y,g.rs[j]?=some y->∃ y',g'.rs[j]?=some y'/\y'.k=y.k
 ptl:ptl g'<=ptl g
 bl:Below f.base w w'
 kp:∀ k,k<w.heap.size->g.ow k=none->w'.heap[k]?=w.heap[k]?/\g'.ow k=none
def P50 (f:Fx) (E:Env) (n:Nat):Prop:=∀ (g:Gh) (i:Nat) (x:Ru) (w:World),Shp f g w->Lgc E g (some i)->g.rs[i]?=some x->15<=x.ls.length+n->
 Calls prog 75 #[pt f.kb,pt x.k.B,(tn x.k.m x.ls).v,x.k.go] w fun e w'=>e=.returned (.tuple #[])/\∃ g',Aft f E g g' w w'
def P48 (f:Fx) (E:Env) (n:Nat):Prop:=∀ (g:Gh) (i:Nat) (x:Ru) (r:R2) (w:World),Shp f g w->Lgc E g (some i)->g.rs[i]?=some x->15<=x.ls.length+n->Ans E (tn x.k.m x.ls) r->
 Calls prog 73 #[.agg #[.int .i64 r.code,.string r.tx],pt x.k.c7,pt x.k.c51,pt x.k.c9,pt x.k.c2,pt x.k.c13] w fun e w'=>e=.returned (.tuple #[])/\∃ g',Aft f E g g' w w'/\ptl g'<ptl g
theorem shp_gh (h:Shp f g w) {F:Ru->Ru} (hF:∀ x,∃ s,F x={ x with sta:=s }):Shp f { g with rs:=g.rs.map F } w:=by
 have hk:∀ x,(F x).k=x.k:=fun x=>by obtain ⟨s,e⟩:=hF x;rw [e]
 have hks:(g.rs.map F).map (·.k)=g.ks:=by rw [List.map_map];exact List.map_congr_left fun x _=>hk x
 have hget:∀ (j:Nat) y,(g.rs.map F)[j]?=some y->∃ z s,g.rs[j]?=some z/\y={ z with sta:=s }:=fun j y e=>by
  obtain ⟨z,h1,h2⟩:=map_some e
  obtain ⟨s,hs⟩:=hF z
  exact ⟨z,s,h1,h2.trans hs⟩
 exact {
  bl:=h.bl
  oge:=h.oge
  kb:=h.kb
  okb:=h.okb
  mr:=h.mr
  ar:=h.ar
  omr:=h.omr
  mw:=h.mw
  aw:=h.aw
  omw:=h.omw
  pl:=h.pl
  opl:=h.opl
  rd:=by show OffRow w f.base 1 g.rv (g.q.map (It.v ((g.rs.map F).map (·.k))));rw [hks];exact h.rd
  ord:=h.ord
  its:=fun it hq=>by show it.At ((g.rs.map F).map (·.k)) w/\_;rw [hks];exact h.its it hq
  ru:=fun j y e=>by
   obtain ⟨z,s,hz,rfl⟩:=hget j y e
   have:=h.ru j z hz
   exact ⟨this.hB,this.h7,this.h8,this.h9,this.h2,this.h10,this.rw,this.lk⟩
  oru:=fun j y e=>by
   obtain ⟨z,s,hz,rfl⟩:=hget j y e
   exact h.oru j z hz
  wr:=fun j y e=>by
   obtain ⟨z,s,hz,rfl⟩:=hget j y e
   show w.ownsRow f.base 135 1 z.wv z.wl.length (z.wl.map fun j=>(((g.rs.map F).map (·.k)).getD j rkz).go)
   rw [hks]
   exact h.wr j z hz
  owr:=fun j y e=>by
   obtain ⟨z,s,hz,rfl⟩:=hget j y e
   exact h.owr j z hz
  wlt:=fun j y e k hk=>by
   obtain ⟨z,s,hz,rfl⟩:=hget j y e
   show k<(g.rs.map F).length
   rw [List.length_map]
   exact h.wlt j z hz k hk
  key:=fun j y e=>by
   obtain ⟨z,s,hz,rfl⟩:=hget j y e
   exact h.key j z hz
  only:=fun n hn=>by
   obtain ⟨j,z,hz,e⟩:=h.only n hn
   exact ⟨j,F z,map_of hz,by rw [hk];exact e⟩
  kw:=fun j y e=>by
   obtain ⟨z,s,hz,rfl⟩:=hget j y e
   exact h.kw j z hz
  kwo:=fun n hn=>by
   obtain ⟨j,z,hz,e⟩:=h.kwo n hn
   exact ⟨j,F z,map_of hz,by rw [hk];exact e⟩
  inj:=fun j j' y y' e e' hn=>by
   obtain ⟨z,s,hz,rfl⟩:=hget j y e
   obtain ⟨z',s',hz',rfl⟩:=hget j' y' e'
   exact h.inj j j' z z' hz hz' hn
  qlt:=fun it hq=>by show it.i<(g.rs.map F).length;rw [List.length_map];exact h.qlt it hq }
theorem RuAt.gh (h:RuAt base kb x t s w) (e1:x'.k=x.k) (e2:x'.ls=x.ls) (e3:x'.lv=x.lv) (e4:x'.v1=x.v1) (e5:x'.v2=x.v2) (e6:x'.r=x.r) (e7:x'.wt=x.wt):RuAt base kb x' t s w:=by
 obtain ⟨k,ls,lv,v1,v2,wv,st,wt,r,sta,wl⟩:=x
 obtain ⟨k',ls',lv',v1',v2',wv',st',wt',r',sta',wl'⟩:=x'
 dsimp only at e1 e2 e3 e4 e5 e6 e7
 subst e1 e2 e3 e4 e5 e6 e7
 exact ⟨h.hB,h.h7,h.h8,h.h9,h.h2,h.h10,h.rw,h.lk⟩
end Go.Proofs.YthfmmimmfcnhmaaGreatDoor
