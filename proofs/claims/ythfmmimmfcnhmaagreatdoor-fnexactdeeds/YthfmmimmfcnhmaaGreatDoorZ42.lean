import Derived.Test.YthfmmimmfcnhmaaGreatDoorZ26
import Derived.Test.YthfmmimmfcnhmaaGreatDoorRG
import Derived.Test.YthfmmimmfcnhmaaGreatDoorZ17
set_option maxHeartbeats 8000000
set_option maxRecDepth 100000
namespace Go.Proofs.YthfmmimmfcnhmaaGreatDoor.G
open Proofs.Tryz
open Go.RowKit
variable {w w':World}
structure VarsAt (w:World):Prop where
 g0:∃ t v,w.cell? ⟨6,0,none⟩=some (.iface t v)
 g1:∃ t v,w.cell? ⟨7,0,none⟩=some (.iface t v)
 g2:∃ t v,w.cell? ⟨8,0,none⟩=some (.iface t v)
 g6:w.cell? ⟨5,0,none⟩=some (.iface 231 (.agg #[.pointer (some ⟨15,122,none⟩)]))
theorem VarsAt.pos (h:VarsAt w):8<w.heap.size:=by
 obtain ⟨t,v,h6⟩:=h.g2
 rcases Nat.lt_or_ge 8 w.heap.size with h | h
 · exact h
 simp [World.cell?,Array.getElem?_eq_none h] at h6
theorem VarsAt.below (h:VarsAt w) (hb:Below w.heap.size w w'):VarsAt w':=by
 have hp:=h.pos
 obtain ⟨t0,v0,h0⟩:=h.g0
 obtain ⟨t1,v1,h1⟩:=h.g1
 obtain ⟨t2,v2,h2⟩:=h.g2
 exact ⟨⟨t0,v0,(hb.cell (p:=⟨6,0,none⟩) (by show 6<w.heap.size;omega)).trans h0⟩,⟨t1,v1,(hb.cell (p:=⟨7,0,none⟩) (by show 7<w.heap.size;omega)).trans h1⟩,⟨t2,v2,(hb.cell (p:=⟨8,0,none⟩) (by show 8<w.heap.size;omega)).trans h2⟩,(hb.cell (p:=⟨5,0,none⟩) (by show 5<w.heap.size;omega)).trans h.g6⟩
theorem c128w (l:List UInt8) (w:World) (hs:l.length<=1048700) (hm:MaxAt w):
 Calls prog 128 #[.string (ofL l),.string ⟨#[32]⟩] w fun e w'=>(∃ y,e=.returned (.tuple #[.string (ofL (wordOf l)),.string (ofL (restOf l)),.bool y]))/\Below w.heap.size w w':=by
 obtain ⟨_,m,hm⟩:=hm
 refine (Tryz.strings_Cut (ofL l) ⟨#[32]⟩ m w (by rw [ofL_size];omega) hm).mono ?_
 rintro e w' ⟨rfl,n,rfl⟩
 refine ⟨⟨(Lib.cut l [32]).2.2,?_⟩,below_drewN n⟩
 rw [<- cut_32,<- cut_32b]
 rfl
theorem c128n (l:List UInt8) (w:World) (hs:l.length<=1048700) (hm:MaxAt w):
 Calls prog 128 #[.string (ofL l),.string ⟨#[10]⟩] w fun e w'=>e=.returned (.tuple #[.string (ofL (Lib.cut l [10]).1),.string (ofL (Lib.cut l [10]).2.1),.bool (Lib.cut l [10]).2.2])/\Below w.heap.size w w':=by
 obtain ⟨_,m,hm⟩:=hm
 refine (Tryz.strings_Cut (ofL l) ⟨#[10]⟩ m w (by rw [ofL_size];omega) hm).mono ?_
 rintro e w' ⟨rfl,n,rfl⟩
 exact ⟨rfl,below_drewN n⟩
theorem c147w (l:List UInt8) (w:World) (hs:l.length<=1048700) (hm:MaxAt w):
 Calls prog 147 #[.string (ofL l),.string ⟨#[32]⟩,.int .i64 3] w fun e w'=>(∃ cap,e=.returned (.slice (some ⟨w.heap.size,0,none⟩) (parts1 l 2).length cap)/\LinesAt w' w.heap.size (parts1 l 2))/\Below w.heap.size w w':=by
 obtain ⟨_,m,hm⟩:=hm
 refine (Tryz.strings_SplitN (ofL l) ⟨#[32]⟩ 3 m w (by rw [ofL_size];omega) hm (by decide) (by omega) (by omega)).mono ?_
 have hd:Lib.splitB ⟨#[32]⟩ 0 (min 3 ((ofL l).size+1) - 1) (ofL l)=(parts1 l 2).map ofL:=by
  refine toL_inj ?_
  rw [Lib.splitB_data ⟨#[32]⟩ 0 (min 3 ((ofL l).size+1) - 1) (ofL l),ofL_size,<- parts_min l]
  rfl
 have hlen:(parts1 l 2).length<=min 3 ((ofL l).size+1):=by
  have:=Lib.splitB_length_le ⟨#[32]⟩ 0 (min 3 ((ofL l).size+1) - 1) (ofL l)
  rw [hd,List.length_map] at this;omega
 rintro e w' ⟨rfl,rfl⟩
 rw [hd]
 refine ⟨⟨_,by rw [List.length_map],by simp,fun i hi=>?_⟩,(Below.refl _ _).alloc (Nat.le_refl _) _⟩
 have hc:(Lib.cellsOf ((parts1 l 2).map ofL) (min 3 ((ofL l).size+1)))[i]?=some (.string (ofL ((parts1 l 2).getD i []))):=by
  unfold Lib.cellsOf
  rw [List.getElem?_toArray,List.getElem?_append_left (by simpa using hi)]
  simp [hi]
 rw [<- hc]
 simp
theorem rz3 {u:World} (hb:Below (w.heap.size+1) (w.alloc (.cells #[.string ⟨#[]⟩,.string ⟨#[]⟩,.string ⟨#[]⟩] 50)) u):
 (u.cell? ⟨w.heap.size,0,none⟩=some (.string ⟨#[]⟩)/\u.cell? ⟨w.heap.size,1,none⟩=some (.string ⟨#[]⟩)/\u.cell? ⟨w.heap.size,2,none⟩=some (.string ⟨#[]⟩))/\u.frozen? ⟨w.heap.size,0,none⟩=false/\u.frozen? ⟨w.heap.size,1,none⟩=false/\u.frozen? ⟨w.heap.size,2,none⟩=false:=by
 have c:∀ j,u.cell? ⟨w.heap.size,j,none⟩=(w.alloc (.cells #[.string ⟨#[]⟩,.string ⟨#[]⟩,.string ⟨#[]⟩] 50)).cell? ⟨w.heap.size,j,none⟩:=fun j=>hb.cell (by simp)
 have f:∀ j,u.frozen? ⟨w.heap.size,j,none⟩=(w.alloc (.cells #[.string ⟨#[]⟩,.string ⟨#[]⟩,.string ⟨#[]⟩] 50)).frozen? ⟨w.heap.size,j,none⟩:=fun j=>hb.frozen (by simp)
 rw [c,c,c,f,f,f]
 simp
theorem c148' (l:List UInt8) (w:World) (hs:l.length<=1048700):Calls prog 148 #[.string (ofL l)] w fun e w'=>Is74 l e/\Below w.heap.size w w':=c148 (ofL l) w (by rw [ofL_size];exact hs)
def Is38 (l:List UInt8) (e:Ending):Prop:=∃ (x:M3) (ok:Bool),e=.returned (.tuple #[x.v,.bool ok])/\IsBodyM l x ok
theorem c129 (l:List UInt8) (w:World) (hs:l.length<=300) (hmx:MaxAt w):
 Calls prog 129 #[.string (ofL l)] w fun e w'=>Is38 l e/\Below w.heap.size w w':=by
 have hno:(∀ y,okM y=true->l≠bodyL y)->Hid (Is38 l (.returned (.tuple #[.agg #[.string ⟨#[]⟩,.string ⟨#[]⟩,.string ⟨#[]⟩],.bool false]))):=fun h=>⟨m3z,false,rfl,bodyM_no h⟩
 have hB0:Below w.heap.size w (w.alloc (.cells #[.string ⟨#[]⟩,.string ⟨#[]⟩,.string ⟨#[]⟩] 50)):=(Below.refl _ _).alloc (Nat.le_refl _) _
 go_enter func129,ntmps129
 go_wp2_with fail
 refine (c147w l _ (by omega) (max_below hmx hB0)).mono ?_
 rintro e w1 ⟨⟨cap,rfl,hln⟩,hb1⟩
 have hx1:Below (w.heap.size+1) (w.alloc (.cells #[.string ⟨#[]⟩,.string ⟨#[]⟩,.string ⟨#[]⟩] 50)) w1:=by simpa using hb1
 have hB1:Below w.heap.size w w1:=hB0.trans (hx1.mono (by omega))
 have HLN:Hid (LinesAt w1 (w.heap.size+1) (parts1 l 2)):=by have h:=hln;simp at h;exact h
 clear hb1 hln
 obtain ⟨⟨z0,z1,z2⟩,y0,y1,y2⟩:=rz3 hx1
 by_cases hm:(32:UInt8)∈l
 rotate_left
 · have hp:parts1 l 2=[l]:=parts_no _ hm
   have HI:=hno (fun y hy e=>hm (bodyM_two hy e).1.1)
   rw [hp]
   clear hno hp hm
   simp only [List.length_cons,List.length_nil]
   go_wp2
   refine bodyPost_ret (v:=.tuple #[.agg #[.string ⟨#[]⟩,.string ⟨#[]⟩,.string ⟨#[]⟩],.bool false]) (by simp [results,Tryz.results129,go_sem,z0,z1,z2]) rfl ⟨HI.out,((hB1.setCell (by simp) _).setCell (by simp) _).setCell (by simp) _⟩
 by_cases hm2:(32:UInt8)∈restOf l
 rotate_left
 · have hp:parts1 l 2=[wordOf l,restOf l]:=by rw [parts_yes 1 hm,parts_no _ hm2]
   have HI:=hno (fun y hy e=>hm2 (bodyM_two hy e).1.2)
   rw [hp]
   clear hno hp hm hm2
   simp only [List.length_cons,List.length_nil]
   go_wp2
   refine bodyPost_ret (v:=.tuple #[.agg #[.string ⟨#[]⟩,.string ⟨#[]⟩,.string ⟨#[]⟩],.bool false]) (by simp [results,Tryz.results129,go_sem,z0,z1,z2]) rfl ⟨HI.out,((hB1.setCell (by simp) _).setCell (by simp) _).setCell (by simp) _⟩
 have hp:parts1 l 2=[wordOf l,wordOf (restOf l),restOf (restOf l)]:=by rw [parts_yes 1 hm,parts_yes 0 hm2,parts_zero]
 rw [hp] at HLN ⊢
 have hlt1:w.heap.size+1<w1.heap.size:=HLN.out.1
 have p0:w1.cell? ⟨w.heap.size+1,0,none⟩=some (.string (ofL (wordOf l))):=HLN.out.2 0 (by simp)
 have p1:w1.cell? ⟨w.heap.size+1,1,none⟩=some (.string (ofL (wordOf (restOf l)))):=HLN.out.2 1 (by simp)
 have p2:w1.cell? ⟨w.heap.size+1,2,none⟩=some (.string (ofL (restOf (restOf l)))):=HLN.out.2 2 (by simp)
 have hr1:=rest_small l
 have hr2:=rest_small (restOf l)
 have hbp:=fun (t:List UInt8) (ok:Bool) hu=>bodyM_parts (l:=l) (t:=t) (ok:=ok) hm hm2 hu
 clear hp
 generalize hA:wordOf l=A at*
 generalize hR:restOf l=R at*
 generalize hBB:wordOf R=B at*
 generalize hQ:restOf R=Q at*
 simp only [List.length_cons,List.length_nil]
 go_wp2_with fail
 refine (c148' _ _ (by omega)).mono ?_
 rintro e w2 ⟨⟨t,ok,rfl,hu⟩,hb2⟩
 have hx2:=hx1.trans (hb2.mono (by omega))
 have hB2:Below w.heap.size w w2:=hB0.trans (hx2.mono (by omega))
 have hlt2:w.heap.size+1<w2.heap.size:=Nat.lt_of_lt_of_le hlt1 hb2.size
 have q0:w2.cell? ⟨w.heap.size+1,0,none⟩=some (.string (ofL A)):=(hb2.cell (by exact hlt1)).trans p0
 have q1:w2.cell? ⟨w.heap.size+1,1,none⟩=some (.string (ofL B)):=(hb2.cell (by exact hlt1)).trans p1
 have q0':=past (by exact hlt2) q0
 have q1':=past (by exact hlt2) q1
 clear z0 z1 z2 y0 y1 y2 p0 p1 p2 HLN
 obtain ⟨⟨z0,z1,z2⟩,y0,y1,y2⟩:=rz3 hx2
 have hRlt:w.heap.size<w2.heap.size:=by omega
 have z0':=past (by exact hRlt) z0
 have z1':=past (by exact hRlt) z1
 have z2':=past (by exact hRlt) z2
 have y0':=pastf (by exact hRlt) y0
 have y1':=pastf (by exact hRlt) y1
 have y2':=pastf (by exact hRlt) y2
 have HBP:=hbp t ok hu
 clear hbp
 cases ok
 · have HI:=hno (HBP.2 (by simp))
   clear hno HBP hu
   go_wp2_with fail
   go_region
   all_goals
    go_wp2_with fail
    have F:=set3_at w2 w.heap.size 0 (.string ⟨#[]⟩) (.string ⟨#[]⟩) (.string ⟨#[]⟩) _ _ _ z0 z1 z2
    simp only [Nat.zero_add] at F
    have G0:=past (p:=⟨w.heap.size,0,none⟩) (by simpa using hRlt) F.1
    have G1:=past (p:=⟨w.heap.size,1,none⟩) (by simpa using hRlt) F.2.1
    have G2:=past (p:=⟨w.heap.size,2,none⟩) (by simpa using hRlt) F.2.2
    refine bodyPost_ret (v:=.tuple #[.agg #[.string ⟨#[]⟩,.string ⟨#[]⟩,.string ⟨#[]⟩],.bool false]) (by simp [results,Tryz.results129,go_sem,G0,G1,G2]) rfl ⟨HI.out,?_⟩
    first
     | exact ((((hB2.setCell (by simp) _).setCell (by simp) _).setCell (by simp) _).alloc (by simpa using hB2.size) _).drew
     | exact (((hB2.setCell (by simp) _).setCell (by simp) _).setCell (by simp) _).alloc (by simpa using hB2.size) _
 have hQl:=hu.1 rfl
 have htl:t.length<=300:=by
  have:=quote_ge t
  rw [<- hQl] at this;omega
 have hle:(⟨ofL A,ofL B,ofL t⟩:M3).le 1048700:=⟨by rw [ofL_size];omega,by rw [ofL_size];omega,by rw [ofL_size];omega⟩
 clear hu
 cases hk:okM ⟨ofL A,ofL B,ofL t⟩
 · have HI:=hno (HBP.2 (by rw [hk];simp))
   have h32:=fun w'=>c149v hk w' hle
   clear hno HBP hk
   go_wp2_with fail
   go_region
   all_goals
    go_wp2_with fail
    refine (h32 _).mono ?_
    rintro e w3 ⟨rfl,hb3⟩
    have hx3:Below (w.heap.size+1) (w.alloc (.cells #[.string ⟨#[]⟩,.string ⟨#[]⟩,.string ⟨#[]⟩] 50)) w3:=by
     refine Below.trans ?_ (hb3.mono (by simp;omega))
     first | exact (hx2.alloc (by omega) _).drew | exact hx2.alloc (by omega) _
    have hB3:Below w.heap.size w w3:=hB0.trans (hx3.mono (by omega))
    clear z0 z1 z2 y0 y1 y2 z0' z1' z2' y0' y1' y2'
    obtain ⟨⟨z0,z1,z2⟩,y0,y1,y2⟩:=rz3 hx3
    go_wp2
    refine bodyPost_ret (v:=.tuple #[.agg #[.string ⟨#[]⟩,.string ⟨#[]⟩,.string ⟨#[]⟩],.bool false]) (by simp [results,Tryz.results129,go_sem,z0,z1,z2]) rfl ⟨HI.out,((hB3.setCell (by simp) _).setCell (by simp) _).setCell (by simp) _⟩
 have HI:Hid (Is38 l (.returned (.tuple #[.agg #[.string (ofL A),.string (ofL B),.string (ofL t)],.bool true]))):=⟨⟨ofL A,ofL B,ofL t⟩,true,rfl,HBP.1 rfl hk⟩
 have h32:=fun w'=>c149v hk w' hle
 clear hno HBP hk
 go_wp2_with fail
 go_region
 all_goals
  go_wp2_with fail
  refine (h32 _).mono ?_
  rintro e w3 ⟨rfl,hb3⟩
  have hx3:Below (w.heap.size+1) (w.alloc (.cells #[.string ⟨#[]⟩,.string ⟨#[]⟩,.string ⟨#[]⟩] 50)) w3:=by
   refine Below.trans ?_ (hb3.mono (by simp;omega))
   first | exact (hx2.alloc (by omega) _).drew | exact hx2.alloc (by omega) _
  have hB3:Below w.heap.size w w3:=hB0.trans (hx3.mono (by omega))
  have m0:w3.cell? ⟨w2.heap.size,0,none⟩=some (.string (ofL A)):=by rw [hb3.cell (by simp)];simp [go_sem]
  have m1:w3.cell? ⟨w2.heap.size,1,none⟩=some (.string (ofL B)):=by rw [hb3.cell (by simp)];simp [go_sem]
  have m2:w3.cell? ⟨w2.heap.size,2,none⟩=some (.string (ofL t)):=by rw [hb3.cell (by simp)];simp [go_sem]
  clear z0 z1 z2 y0 y1 y2 z0' z1' z2' y0' y1' y2'
  obtain ⟨⟨z0,z1,z2⟩,y0,y1,y2⟩:=rz3 hx3
  go_wp2
  have F:=set3_at w3 w.heap.size 0 (.string (ofL A)) (.string (ofL B)) (.string (ofL t)) _ _ _ z0 z1 z2
  simp only [Nat.zero_add] at F
  refine bodyPost_ret (v:=.tuple #[.agg #[.string (ofL A),.string (ofL B),.string (ofL t)],.bool true]) (by simp [results,Tryz.results129,go_sem,F.1,F.2.1,F.2.2]) rfl ⟨HI.out,((hB3.setCell (by simp) _).setCell (by simp) _).setCell (by simp) _⟩
theorem c127 (s:ByteArray) (w:World):
 Calls prog 127 #[.string s,.string ⟨#[10]⟩] w fun e w'=>(∃ n,e=.returned (.int .i64 n))/\w'=w:=by
 go_enter func127,ntmps127
 go_wp2
 rw [run_callFunc_extern func144 (by kernel_rfl) (by kernel_rfl) (by kernel_rfl) (e:=Extern.BytealgCount.count) (by kernel_rfl),Lib.run_countString]
 simp only [Result.andThen]
 rw [Oper.upon_value]
 go_wp2
 go_ret
 exact ⟨⟨_,rfl⟩,rfl⟩
structure VarsR (w:World):Prop where
 va:VarsAt w
 g3:∃ t v,w.cell? ⟨2,0,none⟩=some (.iface t v)
 g4:∃ t v,w.cell? ⟨3,0,none⟩=some (.iface t v)
 g5:∃ t v,w.cell? ⟨4,0,none⟩=some (.iface t v)
 mx:MaxAt w
theorem VarsR.below (h:VarsR w) (hb:Below w.heap.size w w'):VarsR w':=by
 have hp:=h.va.pos
 obtain ⟨t3,v3,h3⟩:=h.g3
 obtain ⟨t4,v4,h4⟩:=h.g4
 obtain ⟨t5,v5,h5⟩:=h.g5
 exact ⟨h.va.below hb,⟨t3,v3,(hb.cell (p:=⟨2,0,none⟩) (by show 2<w.heap.size;omega)).trans h3⟩,⟨t4,v4,(hb.cell (p:=⟨3,0,none⟩) (by show 3<w.heap.size;omega)).trans h4⟩,⟨t5,v5,(hb.cell (p:=⟨4,0,none⟩) (by show 4<w.heap.size;omega)).trans h5⟩,max_below h.mx hb⟩
def Is28 (w:World) (l:List UInt8) (e:Ending) (w':World):Prop:=∃ (ms:List M3) (v er:Value),e=.returned (.tuple #[v,er])/\w'.ownsRow w.heap.size 50 3 v ms.length (mkCells ms)/\((er=.nilIface/\IsPlan l ms true)\/((∃ n ty va,er=.iface 171 (.agg #[.int .i64 n,.iface ty va]))/\IsPlan l [] false))
theorem is28_no {l:List UInt8} (n:Int) (ty:TypeId) (va:Value) (h:IsPlan l [] false):Is28 w l (.returned (.tuple #[.slice none 0 0,.iface 171 (.agg #[.int .i64 n,.iface ty va])])) w':=⟨[],_,_,rfl,World.ownsRow_nil _ _ _ _,.inr ⟨⟨n,ty,va,rfl⟩,h⟩⟩
theorem c101_long (s:ByteArray) (w:World) (hs:s.size<=1048576) (h300:300<s.size) (hv:VarsR w):
 Calls prog 101 #[.string s] w fun e w'=>Is28 w s.data.toList e w'/\Below w.heap.size w w':=by
 have HR:Hid (IsPlan s.data.toList [] false):=read_long (by simpa using h300)
 obtain ⟨t3,v3,g3⟩:=hv.g3
 go_enter func101,ntmps101
 go_wp2_with fail
 go_region_with (go_at_call 127;refine (c127 _ _).mono ?_;rintro e w' ⟨⟨n,rfl⟩,rfl⟩)
 all_goals go_wp2
 all_goals go_ret2
 all_goals exact ⟨is28_no _ _ _ HR.out,by first | exact Below.refl _ _ | exact (Below.refl _ _).drew⟩
theorem c79o (s:ByteArray) (b:UInt8) (w:World) (hs:s.size<=1048700):
 Calls prog 79 #[.string s,.int .u8 b.toNat] w fun e w'=>(∃ g cp,e=.returned (.slice (some ⟨g,0,none⟩) (cutS b s.data.toList).length cp)/\w'.ownsRow w.heap.size 9 1 (.slice (some ⟨g,0,none⟩) (cutS b s.data.toList).length cp) (cutS b s.data.toList).length (strL (cutS b s.data.toList)))/\Below w.heap.size w w':=by
 obtain ⟨i0,hi,hz0,hz1,hz2⟩:=info_parts info9
 have hlen:s.data.toList.length=s.size:=by simp
 go_enter func79,ntmps79
 go_wp2_with fail
 go_loopw [5,6,7] (fun v fr i wr=>∃ (k f:Nat),k<=s.size/\f<=k/\i=.int .i64 k/\fr=.int .i64 f/\wr.ownsRow w.heap.size 9 1 v (cstate b (s.data.toList.take k)).1.length (strL (cstate b (s.data.toList.take k)).1)/\Hid ((s.data.toList.take k).drop f=(cstate b (s.data.toList.take k)).2)/\Below w.heap.size w wr/\w.heap.size+1<=wr.heap.size) (fun _ _ i _=>s.size - (intOf i).toNat)
 case atStart=>exact ⟨0,0,Nat.zero_le _,Nat.le_refl _,rfl,rfl,World.ownsRow_lit _ #[] 0 (Nat.le_refl _) (Nat.zero_le _) rfl,rfl,(Below.refl _ _).alloc (Nat.le_refl _) _,by simp⟩
 obtain ⟨k,f,hk,hf,rfl,rfl,hown,hcur,hb,hz⟩:=hrel
 have hL:(cstate b (s.data.toList.take k)).1.length<=k:=by
  have:=cstate_le b (s.data.toList.take k)
  rw [List.length_take] at this;omega
 by_cases hlt:k<s.size
 rotate_left
 · have HK:Hid (s.data.toList.take k=s.data.toList):=List.take_of_length_le (by omega)
   have HE:Hid (s.extract f s.size=ofL (cstate b (s.data.toList.take k)).2):=ext_ofL (by rw [ext_listF,<- show k=s.size by omega];exact hcur.out)
   have HCU:Hid (cutS b s.data.toList=(cstate b (s.data.toList.take k)).1++[(cstate b (s.data.toList.take k)).2]):=by rw [HK.out];rfl
   clear hcur
   generalize cstate b (s.data.toList.take k)=st at*
   go_wp2_with (at_builtin;refine wpList_append_own _ rfl _ _ 66 rfl w.heap.size 9 i0 (.string ⟨#[]⟩) 1 16 underlying66 hi hz0 hz1 hz2 rfl (by decide) _ _ _ rfl (hown.alloc _) ⟨wr.heap.size,0,none⟩ 1 1 [_] rfl rfl (cell_one_new _ _ _) (by intro u hu;simp at hu;subst hu;rfl) (by unfold maxLen;omega) (by omega) (by simp;omega) ?_;intro v' w2 hown' hgrow _;obtain ⟨g,cp,hvv⟩:=own_formF hown' (by omega);subst hvv)
   go_ret
   have hB2:Below w.heap.size w w2:=(hb.alloc hb.size _).grown hgrow (by simp;omega) (fun j hj=>(hown.lt j hj).1)
   have ho2:w2.ownsRow w.heap.size 9 1 (.slice (some ⟨g,0,none⟩) (st.1.length+1) cp) (st.1.length+1) (strL (cutS b s.data.toList)):=by
    rw [HCU.out,strL_snoc,<- HE.out];exact hown'
   have hlc:(cutS b s.data.toList).length=st.1.length+1:=by rw [HCU.out];simp
   refine ⟨⟨g,cp,by rw [hlc];rfl,by rw [hlc];exact ho2⟩,hB2⟩
 have HS:Hid (cstate b (s.data.toList.take (k+1))=cst b (cstate b (s.data.toList.take k)) s[k]):=by rw [take_snoc s k hlt,cstate_snoc];rfl
 have HE:Hid (s.extract f k=ofL (cstate b (s.data.toList.take k)).2):=ext_ofL (by rw [ext_listF];exact hcur.out)
 by_cases hc:s[k]=b
 · have e1:((s[k].toNat:Int)==(b.toNat:Int))=true:=by rw [hc];simp
   have HC:Hid (cst b (cstate b (s.data.toList.take k)) s[k]=((cstate b (s.data.toList.take k)).1++[(cstate b (s.data.toList.take k)).2],[])):=by unfold cst;rw [if_pos hc];rfl
   have HD:Hid ((s.data.toList.take (k+1)).drop (k+1)=[]):=List.drop_of_length_le (by simp;omega)
   clear hc hcur
   generalize cstate b (s.data.toList.take k)=st at*
   go_wp2_with (at_builtin;refine wpList_append_own _ rfl _ _ 66 rfl w.heap.size 9 i0 (.string ⟨#[]⟩) 1 16 underlying66 hi hz0 hz1 hz2 rfl (by decide) _ _ _ rfl (hown.alloc _) ⟨wr.heap.size,0,none⟩ 1 1 [_] rfl rfl (cell_one_new _ _ _) (by intro u hu;simp at hu;subst hu;rfl) (by unfold maxLen;omega) (by omega) (by simp;omega) ?_;intro v' w2 hown' hgrow _)
   go_roundw
   case rel=>
    have hB2:Below w.heap.size w w2:=(hb.alloc hb.size _).grown hgrow (by simp;omega) (fun j hj=>(hown.lt j hj).1)
    refine ⟨k+1,k+1,by omega,Nat.le_refl _,by go_num,by go_num,?_,?_,hB2,by have:=hgrow.size;simp at this;omega⟩
    · rw [HS.out,HC.out,List.length_append,strL_snoc,<- HE.out]
      exact hown'
    rw [HS.out,HC.out];exact HD.out
   case measure=>simp [intOf];omega
 have e1:((s[k].toNat:Int)==(b.toNat:Int))=false:=by
  simp only [beq_eq_false_iff_ne]
  intro e
  exact hc (UInt8.toNat_inj.1 (by omega))
 have HC:Hid (cst b (cstate b (s.data.toList.take k)) s[k]=((cstate b (s.data.toList.take k)).1,(cstate b (s.data.toList.take k)).2++[s[k]])):=by unfold cst;rw [if_neg hc];rfl
 have HD:Hid ((s.data.toList.take (k+1)).drop f=(s.data.toList.take k).drop f++[s[k]]):=by rw [take_snoc s k hlt,List.drop_append_of_le_length (by simp;omega)];rfl
 clear hc
 generalize cstate b (s.data.toList.take k)=st at*
 go_wp2
 go_roundw
 case rel=>
  refine ⟨k+1,f,by omega,by omega,by go_num,rfl,?_,?_,hb,hz⟩
  · rw [HS.out,HC.out];exact hown
  rw [HS.out,HC.out,HD.out,hcur.out];rfl
 case measure=>simp [intOf];omega
theorem own_ne {B B' e e' size size' n n':Nat} {v v':Value} {xs xs':List Value} (h:w.ownsRow B e size v n xs) (h':w.ownsRow B' e' size' v' n' xs') (hne:e≠e'):v.ownBlock=none\/v.ownBlock≠v'.ownBlock:=by
 rcases h.2 with ⟨rfl,_⟩ | ⟨g,cap,cur,rfl,_,hgg,_⟩
 · exact .inl rfl
 rcases h'.2 with ⟨rfl,_⟩ | ⟨g',cap',cur',rfl,_,hgg',_⟩
 · exact .inr (by simp [Value.ownBlock])
 refine .inr fun he=>?_
 simp only [Value.ownBlock,Option.some.injEq] at he
 subst he
 rw [hgg] at hgg'
 simp only [Option.some.injEq,Obj.cells.injEq] at hgg'
 exact hne hgg'.2.1
theorem c81' (l:List UInt8) (w:World) (hs:l.length<=1048700):
 Calls prog 81 #[.string (ofL l)] w fun e w'=>(∃ t,e=.returned (.string (ofL t))/\t.length<=l.length+1/\∀ q,l=quoteL q->t=q)/\Below w.heap.size w w':=by
 have:=c81 (ofL l) w (by rw [ofL_size];exact hs)
 rw [ofL_size] at this
 exact this
theorem c80v (l:List UInt8) (w:World) (hs:l.length<=1048700):
 Calls prog 80 #[.string (ofL l),.int .i64 3] w fun e w'=>(∃ g cp,e=.returned (.tuple #[.slice (some ⟨g,0,none⟩) 3 cp,.string (ofL (restN l 3))])/\w.heap.size<=g/\LinesAt w' g (wordsN l 3))/\Below w.heap.size w w':=c80w (ofL l) w (by rw [ofL_size];exact hs)
theorem small_snoc {ms:List M3} {x:M3} {B:Nat} (h:∀ j,(ms.getD j m3z).le B) (hx:x.le B) (j:Nat):((ms++[x]).getD j m3z).le B:=by
 rcases Nat.lt_trichotomy j ms.length with hj | hj | hj
 · have:(ms++[x]).getD j m3z=ms.getD j m3z:=by simp [List.getD,List.getElem?_append_left hj]
   rw [this];exact h j
 · subst hj
   have:(ms++[x]).getD ms.length m3z=x:=by simp [List.getD]
   rw [this];exact hx
 have:(ms++[x]).getD j m3z=m3z:=by simp [List.getD,List.getElem?_eq_none (show (ms++[x]).length<=j by simp;omega)]
 rw [this];exact ⟨Nat.zero_le _,Nat.zero_le _,Nat.zero_le _⟩
theorem cell_grown {row:Option Nat} (hg:w.grownBy w' row) {p:Addr} (hp:p.block<w.heap.size) (hne:some p.block≠row):w'.cell? p=w.cell? p:=by
 unfold World.cell?
 rw [hg.block p.block hp hne]
def Is10 (l:List UInt8) (e:Ending) (w':World):Prop:=∃ (ms:List M3) (ok:Bool) (a:Option Addr) (cap:Nat),e=.returned (.tuple #[.slice a ms.length cap,.bool ok])/\MksAt w' a ms/\IsPlan l ms ok
theorem c57 (s:ByteArray) (w:World) (hs:s.size<=1048576):
 Calls prog 57 #[.string s] w fun e w'=>Is10 s.data.toList e w'/\Below w.heap.size w w':=by
 have hlen:s.data.toList.length=s.size:=by simp
 obtain ⟨i0,hi,hz0,hz1,hz2⟩:=info_parts info50
 by_cases h300:300<s.size
 · have HR:Hid (IsPlan s.data.toList [] false):=read_long (by omega)
   go_enter func57,ntmps57
   go_wp2
   go_ret2
   exact ⟨⟨[],false,_,_,rfl,.inl rfl,HR.out⟩,(Below.refl _ _).alloc (Nat.le_refl _) _⟩
 go_enter func57,ntmps57
 go_wp2_with fail
 refine (c79o s 10 _ (by omega)).mono ?_
 rintro e w1 ⟨⟨g,cp,rfl,hln⟩,hb1⟩
 have hx1:Below w.heap.size w w1:=((Below.refl _ _).alloc (Nat.le_refl _) _).trans (hb1.mono (by simp))
 have hz1':w.heap.size+1<=w1.heap.size:=by have:=hb1.size;simpa using this
 have hrow0:w1.ownsRow w.heap.size 50 3 (.slice (some ⟨w.heap.size,0,none⟩) 0 0) 0 (mkCells []):=ownsRow_below (World.ownsRow_lit _ #[] 0 (Nat.le_refl _) (Nat.zero_le _) rfl) hb1
 have hln1:w1.ownsRow w.heap.size 9 1 (.slice (some ⟨g,0,none⟩) (cutS 10 s.data.toList).length cp) (cutS 10 s.data.toList).length (strL (cutS 10 s.data.toList)):=owns_mono hln (by simp)
 obtain ⟨hn1,hn2⟩:=cut_len 10 s.data.toList
 have HCS:Hid (∀ k,((cutS 10 s.data.toList).getD k []).length<=s.data.toList.length):=cut_small 10 s.data.toList
 clear hb1 hln
 go_wp2_with fail
 generalize hLs:cutS 10 s.data.toList=Ls at*
 have HLs:Hid (cutS 10 s.data.toList=Ls):=hLs
 clear hLs
 go_loopw [4,6] (fun v i wr=>∃ (k:Nat) (ms:List M3),k+1<=Ls.length/\i=.int .i64 k/\ms.length=k/\Hid (Sofar s.data.toList ms k)/\Hid (∀ j,(ms.getD j m3z).le 1048576)/\wr.ownsRow w.heap.size 50 3 v ms.length (mkCells ms)/\wr.ownsRow w.heap.size 9 1 (.slice (some ⟨g,0,none⟩) Ls.length cp) Ls.length (strL Ls)/\Below w.heap.size w wr/\w.heap.size+1<=wr.heap.size) (fun _ i _=>Ls.length - (intOf i).toNat)
 case atStart=>exact ⟨0,[],by omega,rfl,rfl,sofar_start _,(fun j=>⟨Nat.zero_le _,Nat.zero_le _,Nat.zero_le _⟩),hrow0,hln1,hx1,hz1'⟩
 obtain ⟨k,ms,hk,rfl,hisl,hso,htx,hown,hrow,hb,hzr⟩:=hrel
 subst hisl
 obtain ⟨ao,co,hv⟩:=row_form3 hown
 subst hv
 by_cases hlt:ms.length+1<Ls.length
 rotate_left
 · obtain ⟨E1,E2⟩:=sofar_end hso.out rfl (by rw [HLs.out];omega) (by omega)
   have HE1:Hid (formP ms=s.data.toList->IsPlan s.data.toList ms true):=E1
   have HE2:Hid (formP ms≠s.data.toList->IsPlan s.data.toList [] false):=E2
   clear E1 E2
   obtain ⟨ao',cap',hv',hat⟩:=own3_form hown
   injection hv' with h1 h2 h3
   subst h1 h3
   have HAT:Hid (MksAt wr ao ms):=hat
   have hmm:ms.length<=1048576:=by omega
   have HC:=c82 ao co ms wr htx.out hmm hat
   clear hat
   go_wp2_with fail
   refine HC.mono ?_
   rintro e w5 ⟨rfl,hb5⟩
   have hB5:Below w.heap.size w w5:=hb.trans (hb5.mono hb.size)
   have HAT5:Hid (MksAt w5 ao ms):=mks_below HAT.out hb5
   clear HC
   by_cases hf:formP ms=s.data.toList
   · have HR:Hid (IsPlan s.data.toList ms true):=HE1.out hf
     have e2:(ofL (formP ms)).toList=s.toList:=by rw [hf,ByteArray.toList_eq,ByteArray.toList_eq];rfl
     have e1:((ofL (formP ms)).toList==s.toList)=true:=by simpa using e2
     clear HE1 HE2 hf
     go_wp2
     go_ret2
     exact ⟨⟨ms,true,_,_,rfl,HAT5.out,HR.out⟩,hB5⟩
   have HR:Hid (IsPlan s.data.toList [] false):=HE2.out hf
   have e2:¬ (ofL (formP ms)).toList=s.toList:=by rw [ByteArray.toList_eq,ByteArray.toList_eq];simpa [ofL] using hf
   have e1:((ofL (formP ms)).toList==s.toList)=false:=by simpa using e2
   clear HE1 HE2 hf
   go_wp2
   go_ret2
   exact ⟨⟨[],false,_,_,rfl,.inl rfl,HR.out⟩,hB5.alloc hB5.size _⟩
 have hlnr:=lines_of_owns hrow rfl
 have l0:=hlnr.2 ms.length (by omega)
 have hLl:=HCS.out ms.length
 have hPar:=fun (t:List UInt8) ht=>parsed (l:=Ls.getD ms.length []) (t:=t) ht
 generalize hL:Ls.getD ms.length []=L at*
 have HL:Hid (Ls.getD ms.length []=L):=hL
 clear hL
 have hiB:(ms.length:Int)<(Ls.length:Int):=by omega
 go_wp2_with fail
 refine (c80v L _ (by omega)).mono ?_
 rintro e w2 ⟨⟨g2,cp2,rfl,hg2,hln2⟩,hb2⟩
 have hB2:Below w.heap.size w w2:=hb.trans (hb2.mono hb.size)
 have hown2:=ownsRow_below hown hb2
 have hrow2:=ownsRow_below hrow hb2
 have hz2':w.heap.size+1<=w2.heap.size:=Nat.le_trans hzr hb2.size
 have q1:w2.cell? ⟨g2,1,none⟩=some (.string (ofL (wordOf (restN L 1)))):=hln2.2 1 (by simp [wordsN])
 have q2:w2.cell? ⟨g2,2,none⟩=some (.string (ofL (wordOf (restN L 2)))):=hln2.2 2 (by simp [wordsN])
 have hg2l:g2<w2.heap.size:=hln2.1
 have r1:=restN_len L 1
 have r2:=restN_len L 2
 have r3:=restN_len L 3
 have r1':=(rest_small (restN L 1)).1
 have r2':=(rest_small (restN L 2)).1
 generalize hA:wordOf (restN L 1)=A at*
 generalize hBB:wordOf (restN L 2)=B at*
 generalize hQ:restN L 3=Q at*
 clear hA hBB hQ hln2 hlnr l0
 go_wp2_with fail
 refine wp_region_held_drew (S:=(fun u=>u.cell? ⟨g2,1,none⟩=some (.string (ofL A))/\u.cell? ⟨g2,2,none⟩=some (.string (ofL B)))) (by kernel_rfl) ?_ (fun hH=>?_)
 · ((try dsimp only);go_keep)
 refine tq 0 hH ?_
 refine tq 1 hH ?_
 refine tq 2 hH ?_
 refine tq 3 hH ?_
 refine tq 4 hH ?_
 refine tq 5 hH ?_
 refine tq 6 hH ?_
 refine tq 7 hH ?_
 try simp only [qq]
 refine rq 8 (fun K hK=>?_)
 go_simp
 refine (c81' Q _ (by omega)).mono ?_
 rintro e w3 ⟨⟨t,rfl,htl,htq⟩,hb3⟩
 have HB3:Hid (Below w2.heap.size w2 w3):=(Below.refl _ _).drew.trans hb3
 have e1:=(HB3.out.cell (p:=⟨g2,1,none⟩) (by exact hg2l)).trans q1
 have e2:=(HB3.out.cell (p:=⟨g2,2,none⟩) (by exact hg2l)).trans q2
 have hown3:=ownsRow_below hown2 HB3.out
 have hrow3:=ownsRow_below hrow2 HB3.out
 have hz3':w2.heap.size<=w3.heap.size:=HB3.out.size
 have e1a:=past (by show g2<w3.heap.size;omega) e1
 have e2a:=past (by show g2<w3.heap.size;omega) e2
 go_wp2_with fail
 clear hH
 refine hK.out _ _ ?_ (fun hH=>?_)
 · ((try dsimp only);go_keep)
 clear hK K
 refine tq 9 hH ?_
 try simp only [qq]
 refine rq 10 (fun K hK=>?_)
 go_simp
 clear hH
 refine hK.out _ _ ?_ (fun hH=>?_)
 · ((try dsimp only);go_keep)
 clear hK K
 try simp only [qq]
 refine rq 11 (fun K hK=>?_)
 refine step_app rfl (.tmp 31) (.tmp 41) 73 rfl w.heap.size 50 i0 (.agg #[.string ⟨#[]⟩,.string ⟨#[]⟩,.string ⟨#[]⟩]) 3 48 underlying73 hi hz0 hz1 hz2 rfl (by decide) _ _ _ rfl (hown3.alloc _) ⟨w3.heap.size,0,none⟩ 1 1 [_,_,_] rfl rfl (row3g rfl _ _ _ _) (by intro u hu;simp at hu;rcases hu with rfl | rfl | rfl <;> rfl) (by unfold maxLen;omega) (by omega) (by simp;omega) ?_
 intro v' w4 hown4 hgrow
 have hB4:Hid (Below w.heap.size w w4):=(((hB2.trans (HB3.out.mono hB2.size)).alloc (by omega) _).grown hgrow (by simp;omega) (fun j hj=>(hown3.lt j hj).1))
 have hrow4:Hid (w4.ownsRow w.heap.size 9 1 (.slice (some ⟨g,0,none⟩) Ls.length cp) Ls.length (strL Ls)):=(hrow3.alloc _).kept hgrow (own_ne hrow3 hown3 (by decide))
 have f1:=(cell_grown hgrow (p:=⟨g2,1,none⟩) (by simp;omega) (fun e=>by have:=(hown.lt _ e.symm).2;simp at this;omega)).trans (e1a _)
 have f2:=(cell_grown hgrow (p:=⟨g2,2,none⟩) (by simp;omega) (fun e=>by have:=(hown.lt _ e.symm).2;simp at this;omega)).trans (e2a _)
 have hz4:w3.heap.size+1<=w4.heap.size:=by have:=hgrow.size;simp at this;omega
 clear hgrow
 clear hH
 refine hK.out _ _ ?_ (fun hH=>?_)
 · ((try dsimp only);go_keep)
 clear hK K
 refine tq 12 hH ?_
 try simp only [qq]
 refine wpAnyH_done (by kernel_rfl) ?_ _
 clear hH
 have HSO:Hid (Sofar s.data.toList (ms++[⟨ofL A,ofL B,ofL t⟩]) (ms.length+1)):=sofar_step hso.out (by rw [HLs.out];exact hlt) (by rw [HLs.out,HL.out];exact hPar t htq)
 have HTX:Hid (∀ j,((ms++[(⟨ofL A,ofL B,ofL t⟩:M3)]).getD j m3z).le 1048576):=small_snoc htx.out ⟨by rw [ofL_size];omega,by rw [ofL_size];omega,by rw [ofL_size];omega⟩
 go_wp2
 go_roundw
 case rel=>
  refine ⟨ms.length+1,ms++[(⟨ofL A,ofL B,ofL t⟩:M3)],by omega,by go_num,by simp,HSO,HTX,?_,hrow4.out,hB4.out,by omega⟩
  rw [mkCells_snoc,List.length_append]
  exact hown4
 case measure=>simp [intOf];omega
end Go.Proofs.YthfmmimmfcnhmaaGreatDoor.G
