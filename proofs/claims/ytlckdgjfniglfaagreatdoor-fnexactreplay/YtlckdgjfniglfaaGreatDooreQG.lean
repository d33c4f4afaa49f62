import Derived.Test.YtlckdgjfniglfaaGreatDooreY1
set_option maxRecDepth 100000
set_option linter.unusedVariables false
set_option maxHeartbeats 8000000
namespace Go.Proofs.YtlckdgjfniglfaaGreatDoor
open Proofs.Tryz
open Go.RowKit
def Unq (q t:List UInt8) (ok:Bool):Prop:=(ok=true->q=quoteL t)/\(ok=false->∀ l,q≠quoteL l)
def Is74 (q:List UInt8) (e:Ending):Prop:=∃ t ok,e=.returned (.tuple #[.string (ofL t),.bool ok])/\Unq q t ok
theorem ext_list (s:ByteArray) (a b:Nat):(s.extract a b).data.toList=(s.data.toList.take b).drop a:=by
 rw [ByteArray.data_extract,Array.toList_extract,List.extract_eq_take_drop,List.drop_take]
theorem drop_at (s:ByteArray) (k:Nat) (h:k<s.size):s.data.toList.drop k=s[k]::s.data.toList.drop (k+1):=by
 rw [List.drop_eq_getElem_cons (by simpa using h)];rfl
theorem inner_of (q:ByteArray) (h2:2<=q.size) (hf:(q[0].toNat:Int)=34) (hl:(q[q.size - 1].toNat:Int)=34):q.data.toList=34::((q.extract 1 (q.size - 1)).data.toList++[34]):=by
 have e0:q[0]=34:=UInt8.toNat_inj.1 (by
  have:q[0].toNat=34:=om_;rw [this];rfl)
 have e1:q[q.size - 1]=34:=UInt8.toNat_inj.1 (by
  have:q[q.size - 1].toNat=34:=om_;rw [this];rfl)
 have hlen:q.data.toList.length=q.size:=sm_;have t1:q.data.toList=q.data.toList.take (q.size - 1)++q.data.toList.drop (q.size - 1):=(List.take_append_drop _ _).symm;have d0:=drop_at q (q.size - 1) om_;rw [e1,List.drop_of_length_le (show q.data.toList.length<=q.size - 1+1 by omega)] at d0;have d1:=drop_at q 0 om_;rw [e0] at d1;simp only [List.drop_zero,Nat.zero_add] at d1;rw [ext_list];have t2:q.data.toList.take (q.size - 1)=34::(q.data.toList.take (q.size - 1)).drop 1:=by
  obtain ⟨m,hm⟩:∃ m,q.size - 1=m+1:=⟨q.size - 2,om_⟩;rw [hm]
  conv=>lhs;rw [d1]
  rw [d1];simp
 rw [<- List.cons_append,<- t2,<- d0];exact t1
theorem not_quote {q:List UInt8} (h:q.length<2\/q.headD 0≠34\/q.getLastD 0≠34):∀ l,q≠quoteL l:=by
 intro l e;subst e;rcases h with h | h | h
 · have:=quote_ge l;omega
 · exact h rfl
 · apply h
   show (34::(l.flatMap qb++[34])).getLastD 0=34;rw [<- List.cons_append,List.getLastD_concat]
theorem take_ext (s:ByteArray) (k:Nat) (_:k<=s.size):s.data.toList=s.data.toList.take k++(s.extract k s.size).data.toList:=by
 rw [ext_list,List.take_of_length_le (show s.data.toList.length<=s.size by simp),List.take_append_drop]
theorem c226_in (q:ByteArray) (w:World) (hs:q.size<=1048700) (h2:2<=q.size) (hf:(q[0].toNat:Int)=34) (hl:(q[q.size - 1].toNat:Int)=34):
 Calls prog 82 #[.string q] w fun e w'=>Is74 q.data.toList e/\Below w.heap.size w w':=by
 have HF:Hid (Lib.IsBuilder 188 5 w.heap.size w.heap.size [] (w.alloc (.cells #[.pointer none,.slice none 0 0] 188))):=Lib.fresh_isBuilder 188 5 w;have HI:Hid (q.data.toList=34::((q.extract 1 (q.size - 1)).data.toList++[34])):=inner_of q h2 hf hl;have hz:(q.extract 1 (q.size - 1)).size<=1048700:=so_;go_enter func82,ntmps82
 go_wp2_with fail
 clear hf hl;generalize q.extract 1 (q.size - 1)=I at*;go_loopw [6] (fun i wr=>∃ (k:Nat) (t:List UInt8),k<=I.size/\i=.int .i64 k/\t.length<=k/\Hid (I.data.toList.take k=t.flatMap qb)/\Hid (Lib.IsBuilder 188 5 w.heap.size w.heap.size (Lib.byteCells t) wr)/\Below w.heap.size w wr/\w.heap.size+1<=wr.heap.size) (fun i _=>I.size - (intOf i).toNat)
 case atStart=>exact ⟨0,[],Nat.zero_le _,rfl,Nat.le_refl _,rfl,HF,bA_,sm_⟩
 case round=>
  obtain ⟨k,t,hk,rfl,htk,htl,hbl,hb,hzr⟩:=hrel;by_cases hlt:k<I.size
  · go_wp2_with fail
    refine (c119 I[k] _).mono ?_;rintro e w1 ⟨rfl,hw1⟩;obtain rfl:=hw1.symm;cases hp:plainB I[k]
    · have HP:Hid (plainB I[k]=false):=hp
      clear hp
      go_wp2_with fail
      refine (c121 _ _ so_).mono ?_;rintro e w1 ⟨⟨c,ok,rfl,hun⟩,hw1⟩;obtain rfl:=hw1.symm;have HD:Hid (I.data.toList=t.flatMap qb++(I.extract k I.size).data.toList):=by rw [<- htl.out];exact take_ext I k hk
      cases ok
      · have HU:Hid (Unq q.data.toList [] false):=by
         refine ⟨(fun h=>by cases h),fun _ l e=>?_⟩;rw [HI.out] at e;unfold quoteL at e;simp only [List.cons.injEq,true_and,List.append_cancel_right_eq] at e;rw [HD.out] at e;obtain ⟨r,hr,_⟩:=flat_pre e;have hne:(I.extract k I.size).data.toList=I[k]::I.data.toList.drop (k+1):=by
          rw [ext_list,List.take_of_length_le sm_,drop_at I k hlt]
         cases r with
         | nil=>rw [hr] at hne;cases hne
         | cons d r=>
          rw [hr,List.flatMap_cons] at hne;cases hd:plainB d
          · exact hun.2 rfl d _ hd hr
          · rw [qb_plain hd] at hne
            simp only [List.cons_append,List.nil_append,List.cons.injEq] at hne;rw [hne.1,HP.out] at hd;cases hd
        clear hun;go_wp2;go_ret2;exact ⟨⟨[],false,rfl,HU.out⟩,hb⟩
      · have HQ:Hid (plainB c=false/\∃ r,(I.extract k I.size).data.toList=qb c++r):=hun.1 rfl
        clear hun;have hk3:k+3<=I.size:=by
         obtain ⟨h1,r,h2⟩:=HQ.out;have:=congrArg List.length h2;rw [qb_not h1] at this;simp at this;omega
        have HT:Hid (I.data.toList.take (k+3)=(t++[c]).flatMap qb):=by
         obtain ⟨h1,r,h2⟩:=HQ.out;have hl:(t.flatMap qb).length=k:=by rw [<- htl.out];simp;omega
         rw [HD.out,h2,<- List.append_assoc,List.take_append_of_le_length (by rw [List.length_append,hl,qb_not h1];simp),List.take_of_length_le (by rw [List.length_append,hl,qb_not h1];simp),List.flatMap_append];simp [Hid]
        go_wp2_with fail
        refine (c120 w.heap.size w.heap.size (Lib.byteCells t) c.toNat _ hbl.out (by rw [cells_len];omega) om_).mono ?_;rintro e w3 ⟨rfl,h3,hb3⟩;have H3:Hid (Lib.IsBuilder 188 5 w.heap.size w.heap.size (Lib.byteCells (t++[c])) w3):=by rw [cells_snoc];exact h3
        have hB3:Below w.heap.size w w3:=hb.trans hb3;have hz3:w.heap.size+1<=w3.heap.size:=Nat.le_trans hzr hb3.size;clear h3 hb3;go_wp2;go_roundw
        case rel=>exact ⟨k+3,t++[c],hk3,by go_num,so_,HT,H3,hB3,hz3⟩
        case measure=>simp [intOf];omega
    · have HT:Hid (I.data.toList.take (k+1)=(t++[I[k]]).flatMap qb):=by
       rw [take_snoc I k hlt,htl.out,List.flatMap_append];simp [Hid,qb_plain hp]
      clear hp
      go_wp2_with fail
      refine (c120 w.heap.size w.heap.size (Lib.byteCells t) _ _ hbl.out (by rw [cells_len];omega) om_).mono ?_;rintro e w3 ⟨rfl,h3,hb3⟩;have H3:Hid (Lib.IsBuilder 188 5 w.heap.size w.heap.size (Lib.byteCells (t++[I[k]])) w3):=by rw [cells_snoc];exact h3
      have hB3:Below w.heap.size w w3:=hb.trans hb3;have hz3:w.heap.size+1<=w3.heap.size:=Nat.le_trans hzr hb3.size;clear h3 hb3;go_wp2;go_roundw
      case rel=>exact ⟨k+1,t++[I[k]],om_,by go_num,so_,HT,H3,hB3,hz3⟩
      case measure=>simp [intOf];omega
  · have HU:Hid (Unq q.data.toList t true):=by
     refine ⟨fun _=>?_,(fun h=>by cases h)⟩;have:=htl.out;rw [List.take_of_length_le so_] at this;rw [HI.out,this];rfl
    go_wp2_with fail
    refine (Tryz.Builder_String_any w.heap.size w.heap.size t _ hbl.out om_).mono ?_;rintro e w4 ⟨rfl,hb4⟩;go_wp2;go_ret2;exact ⟨⟨t,true,rfl,HU.out⟩,hb.trans hb4⟩
theorem c82 (q:ByteArray) (w:World) (hs:q.size<=1048700):
 Calls prog 82 #[.string q] w fun e w'=>Is74 q.data.toList e/\Below w.heap.size w w':=by
 by_cases h2:2<=q.size
 · have hz0:0<q.size:=om_
   have hz1:q.size - 1<q.size:=om_;by_cases hf:(q[0].toNat:Int)=34
   · by_cases hl:(q[q.size - 1].toNat:Int)=34
     · exact c226_in q w hs h2 hf hl
     · have HU:Hid (Is74 q.data.toList (.returned (.tuple #[.string ⟨#[]⟩,.bool false]))):=by
        refine ⟨[],false,rfl,(fun h=>by cases h),fun _=>not_quote (.inr (.inr fun e=>hl ?_))⟩;have d0:=drop_at q (q.size - 1) om_;rw [List.drop_of_length_le (show q.data.toList.length<=q.size - 1+1 by simp;omega)] at d0;have:q.data.toList=q.data.toList.take (q.size - 1)++[q[q.size - 1]]:=by rw [<- d0];exact (List.take_append_drop _ _).symm
        rw [this] at e;simp at e;rw [e];rfl
       have e1:((q[q.size - 1].toNat:Int) !=34)=true:=by simpa using hl
       clear hl;go_enter func82,ntmps82;go_wp2;go_ret2;exact ⟨HU.out,Below.refl _ _⟩
   · have HU:Hid (Is74 q.data.toList (.returned (.tuple #[.string ⟨#[]⟩,.bool false]))):=by
      refine ⟨[],false,rfl,(fun h=>by cases h),fun _=>not_quote (.inr (.inl fun e=>hf ?_))⟩;have d1:=drop_at q 0 om_;simp only [List.drop_zero] at d1;rw [d1] at e;simp at e;rw [e];rfl
     have e1:((q[0].toNat:Int) !=34)=true:=by simpa using hf
     clear hf;go_enter func82,ntmps82;go_wp2;go_ret2;exact ⟨HU.out,Below.refl _ _⟩
 · have HU:Hid (Is74 q.data.toList (.returned (.tuple #[.string ⟨#[]⟩,.bool false]))):=⟨[],false,rfl,(fun h=>by cases h),fun _=>not_quote (.inl so_)⟩
   go_enter func82,ntmps82;go_wp2;go_ret2;exact ⟨HU.out,Below.refl _ _⟩
theorem c75wE (l:List UInt8) (w:World) (hs:l.length<=1048700) (hm:MaxAt w):
 Calls prog 75 #[.string (ofL l),.string ⟨#[32]⟩] w fun e w'=>(∃ y,e=.returned (.tuple #[.string (ofL (wordOf l)),.string (ofL (restOf l)),.bool y]))/\Below w.heap.size w w':=by
 obtain ⟨_,m,hm⟩:=hm;refine (Tryz.strings_Cut (ofL l) ⟨#[32]⟩ m w (by rw [ofL_size];omega) hm).mono ?_;rintro e w' ⟨rfl,n,rfl⟩;refine ⟨⟨(Lib.cut l [32]).2.2,?_⟩,below_drewN n⟩;rw [<- cut_32,<- cut_32b];rfl
theorem toL_inj {ss:List ByteArray} {ls:List (List UInt8)} (h:ss.map (·.data.toList)=ls):ss=ls.map ofL:=by
 rw [<- h,List.map_map]
 conv=>lhs;rw [<- List.map_id ss]
 refine List.map_congr_left fun s _=>?_;exact ext_ofL rfl
theorem c149w (l:List UInt8) (w:World) (hs:l.length<=1048700) (hm:MaxAt w):
 Calls prog 149 #[.string (ofL l),.string ⟨#[32]⟩,.int .i64 3] w fun e w'=>(∃ cap,e=.returned (.slice (some ⟨w.heap.size,0,none⟩) (parts1 l 2).length cap)/\LinesAt w' w.heap.size (parts1 l 2))/\Below w.heap.size w w':=by
 obtain ⟨_,m,hm⟩:=hm;refine (Tryz.strings_SplitN (ofL l) ⟨#[32]⟩ 3 m w (by rw [ofL_size];omega) hm dc_ om_ om_).mono ?_;have hd:Lib.splitB ⟨#[32]⟩ 0 (min 3 ((ofL l).size+1) - 1) (ofL l)=(parts1 l 2).map ofL:=by
  refine toL_inj ?_;rw [Lib.splitB_data ⟨#[32]⟩ 0 (min 3 ((ofL l).size+1) - 1) (ofL l),ofL_size,<- parts_min l];rfl
 have hlen:(parts1 l 2).length<=min 3 ((ofL l).size+1):=by
  have:=Lib.splitB_length_le ⟨#[32]⟩ 0 (min 3 ((ofL l).size+1) - 1) (ofL l);rw [hd,List.length_map] at this;omega
 rintro e w' ⟨rfl,rfl⟩;rw [hd];refine ⟨⟨_,by rw [List.length_map],sm_,fun i hi=>?_⟩,bA_⟩;have hc:(Lib.cellsOf ((parts1 l 2).map ofL) (min 3 ((ofL l).size+1)))[i]?=some (.string (ofL ((parts1 l 2).getD i []))):=by
  unfold Lib.cellsOf;rw [List.getElem?_toArray,List.getElem?_append_left (by simpa using hi)];simp [hi]
 rw [<- hc];simp
theorem rz3 {w u:World} (hb:Below (w.heap.size+1) (w.alloc (.cells #[.string ⟨#[]⟩,.string ⟨#[]⟩,.string ⟨#[]⟩] 42)) u):
 (u.cell? ⟨w.heap.size,0,none⟩=some (.string ⟨#[]⟩)/\u.cell? ⟨w.heap.size,1,none⟩=some (.string ⟨#[]⟩)/\u.cell? ⟨w.heap.size,2,none⟩=some (.string ⟨#[]⟩))/\u.frozen? ⟨w.heap.size,0,none⟩=false/\u.frozen? ⟨w.heap.size,1,none⟩=false/\u.frozen? ⟨w.heap.size,2,none⟩=false:=by
 have c:∀ j,u.cell? ⟨w.heap.size,j,none⟩=(w.alloc (.cells #[.string ⟨#[]⟩,.string ⟨#[]⟩,.string ⟨#[]⟩] 42)).cell? ⟨w.heap.size,j,none⟩:=fun j=>hb.cell sm_;have f:∀ j,u.frozen? ⟨w.heap.size,j,none⟩=(w.alloc (.cells #[.string ⟨#[]⟩,.string ⟨#[]⟩,.string ⟨#[]⟩] 42)).frozen? ⟨w.heap.size,j,none⟩:=fun j=>hb.frozen sm_;rw [c,c,c,f,f,f];simp
theorem pset {w:World} {p q:Addr} {x:Value} (hne:q.block≠p.block) (h:w.cell? p=some x) (v:Value):(w.setCell q v).cell? p=some x:=by
 rw [World.cell?_setCell_other _ _ _ _ (fun e=>hne (by rw [e]))];exact h
theorem c82' (l:List UInt8) (w:World) (hs:l.length<=1048700):Calls prog 82 #[.string (ofL l)] w fun e w'=>Is74 l e/\Below w.heap.size w w':=c82 (ofL l) w (by rw [ofL_size];exact hs)
def Is38 (l:List UInt8) (e:Ending):Prop:=∃ (x:M3) (ok:Bool),e=.returned (.tuple #[x.v,.bool ok])/\IsBodyM l x ok
theorem c116 (l:List UInt8) (w:World) (hs:l.length<=16000) (hmx:MaxAt w):
 Calls prog 116 #[.string (ofL l)] w fun e w'=>Is38 l e/\Below w.heap.size w w':=by
 have hno:(∀ y,okM y=true->l≠bodyL y)->Hid (Is38 l (.returned (.tuple #[.agg #[.string ⟨#[]⟩,.string ⟨#[]⟩,.string ⟨#[]⟩],.bool false]))):=fun h=>⟨m3z,false,rfl,bodyM_no h⟩;have hB0:Below w.heap.size w (w.alloc (.cells #[.string ⟨#[]⟩,.string ⟨#[]⟩,.string ⟨#[]⟩] 42)):=bA_;go_enter func116,ntmps116
 go_wp2_with fail
 refine (c149w l _ om_ (max_below hmx hB0)).mono ?_;rintro e w1 ⟨⟨cap,rfl,hln⟩,hb1⟩;have hx1:Below (w.heap.size+1) (w.alloc (.cells #[.string ⟨#[]⟩,.string ⟨#[]⟩,.string ⟨#[]⟩] 42)) w1:=by simpa using hb1
 have hB1:Below w.heap.size w w1:=hB0.trans (hx1.mono om_);have HLN:Hid (LinesAt w1 (w.heap.size+1) (parts1 l 2)):=by have h:=hln;simp at h;exact h
 clear hb1 hln;obtain ⟨⟨z0,z1,z2⟩,y0,y1,y2⟩:=rz3 hx1;by_cases hm:(32:UInt8)∈l
 · by_cases hm2:(32:UInt8)∈restOf l
   · have hp:parts1 l 2=[wordOf l,wordOf (restOf l),restOf (restOf l)]:=by rw [parts_yes 1 hm,parts_yes 0 hm2,parts_zero]
     rw [hp] at HLN ⊢;have hlt1:w.heap.size+1<w1.heap.size:=HLN.out.1;have p0:w1.cell? ⟨w.heap.size+1,0,none⟩=some (.string (ofL (wordOf l))):=HLN.out.2 0 sm_;have p1:w1.cell? ⟨w.heap.size+1,1,none⟩=some (.string (ofL (wordOf (restOf l)))):=HLN.out.2 1 sm_;have p2:w1.cell? ⟨w.heap.size+1,2,none⟩=some (.string (ofL (restOf (restOf l)))):=HLN.out.2 2 sm_;have hr1:=rest_small l;have hr2:=rest_small (restOf l);have hbp:=fun (t:List UInt8) (ok:Bool) hu=>bodyM_parts (l:=l) (t:=t) (ok:=ok) hm hm2 hu;clear hp;generalize hA:wordOf l=A at*;generalize hR:restOf l=R at*;generalize hBB:wordOf R=B at*;generalize hQ:restOf R=Q at*;simp only [List.length_cons,List.length_nil]
     go_wp2_with fail
     refine (c82' _ _ om_).mono ?_;rintro e w2 ⟨⟨t,ok,rfl,hu⟩,hb2⟩;have hx2:=hx1.trans (hb2.mono om_);have hB2:Below w.heap.size w w2:=hB0.trans (hx2.mono om_);have hlt2:w.heap.size+1<w2.heap.size:=Nat.lt_of_lt_of_le hlt1 hb2.size;have q0:w2.cell? ⟨w.heap.size+1,0,none⟩=some (.string (ofL A)):=(hb2.cell (by exact hlt1)).trans p0;have q1:w2.cell? ⟨w.heap.size+1,1,none⟩=some (.string (ofL B)):=(hb2.cell (by exact hlt1)).trans p1;have q0':=past (by exact hlt2) q0;have q1':=past (by exact hlt2) q1;clear z0 z1 z2 y0 y1 y2 p0 p1 p2 HLN;obtain ⟨⟨z0,z1,z2⟩,y0,y1,y2⟩:=rz3 hx2;have hRlt:w.heap.size<w2.heap.size:=om_;have z0':=past (by exact hRlt) z0;have z1':=past (by exact hRlt) z1;have z2':=past (by exact hRlt) z2;have y0':=pastf (by exact hRlt) y0;have y1':=pastf (by exact hRlt) y1;have y2':=pastf (by exact hRlt) y2;have HBP:=hbp t ok hu;clear hbp;cases ok
     · have HI:=hno (HBP.2 sm_)
       clear hno HBP hu
       go_wp2_with fail
       go_region
       all_goals
        go_wp2_with fail
        have F:=set3_at w2 w.heap.size 0 (.string ⟨#[]⟩) (.string ⟨#[]⟩) (.string ⟨#[]⟩) _ _ _ z0 z1 z2;simp only [Nat.zero_add] at F;have G0:=past (p:=⟨w.heap.size,0,none⟩) (by simpa using hRlt) F.1;have G1:=past (p:=⟨w.heap.size,1,none⟩) (by simpa using hRlt) F.2.1;have G2:=past (p:=⟨w.heap.size,2,none⟩) (by simpa using hRlt) F.2.2;refine bodyPost_ret (v:=.tuple #[.agg #[.string ⟨#[]⟩,.string ⟨#[]⟩,.string ⟨#[]⟩],.bool false]) (by simp [results,Tryz.results116,go_sem,G0,G1,G2]) rfl ⟨HI.out,?_⟩
        first
         | exact ((((hB2.setCell sm_ _).setCell sm_ _).setCell sm_ _).alloc (by simpa using hB2.size) _).drew
         | exact (((hB2.setCell sm_ _).setCell sm_ _).setCell sm_ _).alloc (by simpa using hB2.size) _
     · have hQl:=hu.1 rfl
       have htl:t.length<=16000:=by
        have:=quote_ge t;rw [<- hQl] at this;omega
       have hle:(⟨ofL A,ofL B,ofL t⟩:M3).le 1048700:=⟨by rw [ofL_size];omega,by rw [ofL_size];omega,by rw [ofL_size];omega⟩;clear hu;cases hk:okM ⟨ofL A,ofL B,ofL t⟩
       · have HI:=hno (HBP.2 (by rw [hk];simp))
         have h32:=fun w'=>c89v hk w' hle;clear hno HBP hk
         go_wp2_with fail
         go_region
         all_goals
          go_wp2_with fail
          refine (h32 _).mono ?_;rintro e w3 ⟨rfl,hb3⟩;have hx3:Below (w.heap.size+1) (w.alloc (.cells #[.string ⟨#[]⟩,.string ⟨#[]⟩,.string ⟨#[]⟩] 42)) w3:=by
           refine Below.trans ?_ (hb3.mono so_)
           first | exact (hx2.alloc om_ _).drew | exact hx2.alloc om_ _
          have hB3:Below w.heap.size w w3:=hB0.trans (hx3.mono om_);clear z0 z1 z2 y0 y1 y2 z0' z1' z2' y0' y1' y2';obtain ⟨⟨z0,z1,z2⟩,y0,y1,y2⟩:=rz3 hx3;go_wp2;refine bodyPost_ret (v:=.tuple #[.agg #[.string ⟨#[]⟩,.string ⟨#[]⟩,.string ⟨#[]⟩],.bool false]) (by simp [results,Tryz.results116,go_sem,z0,z1,z2]) rfl ⟨HI.out,((hB3.setCell sm_ _).setCell sm_ _).setCell sm_ _⟩
       · have HI:Hid (Is38 l (.returned (.tuple #[.agg #[.string (ofL A),.string (ofL B),.string (ofL t)],.bool true]))):=⟨⟨ofL A,ofL B,ofL t⟩,true,rfl,HBP.1 rfl hk⟩
         have h32:=fun w'=>c89v hk w' hle;clear hno HBP hk
         go_wp2_with fail
         go_region
         all_goals
          go_wp2_with fail
          refine (h32 _).mono ?_;rintro e w3 ⟨rfl,hb3⟩;have hx3:Below (w.heap.size+1) (w.alloc (.cells #[.string ⟨#[]⟩,.string ⟨#[]⟩,.string ⟨#[]⟩] 42)) w3:=by
           refine Below.trans ?_ (hb3.mono so_)
           first | exact (hx2.alloc om_ _).drew | exact hx2.alloc om_ _
          have hB3:Below w.heap.size w w3:=hB0.trans (hx3.mono om_);have m0:w3.cell? ⟨w2.heap.size,0,none⟩=some (.string (ofL A)):=by rw [hb3.cell sm_];simp [go_sem]
          have m1:w3.cell? ⟨w2.heap.size,1,none⟩=some (.string (ofL B)):=by rw [hb3.cell sm_];simp [go_sem]
          have m2:w3.cell? ⟨w2.heap.size,2,none⟩=some (.string (ofL t)):=by rw [hb3.cell sm_];simp [go_sem]
          clear z0 z1 z2 y0 y1 y2 z0' z1' z2' y0' y1' y2';obtain ⟨⟨z0,z1,z2⟩,y0,y1,y2⟩:=rz3 hx3;go_wp2;have F:=set3_at w3 w.heap.size 0 (.string (ofL A)) (.string (ofL B)) (.string (ofL t)) _ _ _ z0 z1 z2;simp only [Nat.zero_add] at F;refine bodyPost_ret (v:=.tuple #[.agg #[.string (ofL A),.string (ofL B),.string (ofL t)],.bool true]) (by simp [results,Tryz.results116,go_sem,F.1,F.2.1,F.2.2]) rfl ⟨HI.out,((hB3.setCell sm_ _).setCell sm_ _).setCell sm_ _⟩
   · have hp:parts1 l 2=[wordOf l,restOf l]:=by rw [parts_yes 1 hm,parts_no _ hm2]
     have HI:=hno (fun y hy e=>hm2 (bodyM_two hy e).1.2);rw [hp];clear hno hp hm hm2;simp only [List.length_cons,List.length_nil];go_wp2;refine bodyPost_ret (v:=.tuple #[.agg #[.string ⟨#[]⟩,.string ⟨#[]⟩,.string ⟨#[]⟩],.bool false]) (by simp [results,Tryz.results116,go_sem,z0,z1,z2]) rfl ⟨HI.out,((hB1.setCell sm_ _).setCell sm_ _).setCell sm_ _⟩
 · have hp:parts1 l 2=[l]:=parts_no _ hm
   have HI:=hno (fun y hy e=>hm (bodyM_two hy e).1.1);rw [hp];clear hno hp hm;simp only [List.length_cons,List.length_nil];go_wp2;refine bodyPost_ret (v:=.tuple #[.agg #[.string ⟨#[]⟩,.string ⟨#[]⟩,.string ⟨#[]⟩],.bool false]) (by simp [results,Tryz.results116,go_sem,z0,z1,z2]) rfl ⟨HI.out,((hB1.setCell sm_ _).setCell sm_ _).setCell sm_ _⟩
end Go.Proofs.YtlckdgjfniglfaaGreatDoor
